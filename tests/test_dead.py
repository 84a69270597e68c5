"""[61]: which "store" ROWS are DEAD."""

import itertools
import unittest

from storeways.codes import places_in, row_at
from storeways.dead import dead
from storeways.faces import cells_in, face
from storeways.freeing import goes_on
from storeways.waychecker import lets_way, shows, state_of
from tests.samples import (
    A1, ANY_A, BACK, CELL, CODE, LEAST, LOAD, NEVER, OBJECTS, Case, block, busy_code, call, code_of, some_code, store,
)
from tests.tried import tried


def at(number, row, name="main"):
    return (name, number, row)


def stores(code):
    """The PLACES of all "store" ROWS."""
    return [place for place in places_in(code) if row_at(code, place)[0] == "store"]


def live_by_trying(code, shown):
    """All "store" ROWS that are read by a "load" or stand in a SHOWN CELL where main ENDS, by all ways that can be tried."""
    live = set()
    for cell in cells_in(code):
        for place, found in tried(code, cell).items():
            row = row_at(code, place)
            if row[0] == "load" and cell in face(code, row[2]) or place[0] == "main" and row == BACK and cell in shown:
                live |= found
    return live


def live_by_ways(code, shown, longest):
    """The same, but by FREE WAYS of at most so many STEPS, by what they SHOW and what lets_way tells of them."""
    live, seen, ways = set(), set(), [()]
    for _ in range(longest):
        newer = []
        for way in ways:
            for step in goes_on(code, way):
                longer = (*way, step)
                if row_at(code, step[0])[0] == "load":
                    live.add(shows(code, longer)[1])
                word, last = lets_way(code, longer)
                if word == "ends":
                    live |= {place for cell, place in last if cell in shown}
                if (state_of(code, longer), last) not in seen:
                    seen.add((state_of(code, longer), last))
                    newer.append(longer)
        ways = newer
    return live


class TestDead(Case):
    def told(self, code, *cases):
        """Each case is (shown, the DEAD ones)."""
        for shown, want in cases:
            with self.subTest(shown=shown):
                self.same(self.untouched(dead, code, shown), want)

    def test_no_store(self):
        self.told(LEAST, (None, ()), ((), ()))

    def test_one_that_is_read(self):
        self.told(code_of(block(store(), LOAD, BACK)), (None, ()), ((), ()), ((("b", 0),), ()))
        self.told(code_of(block(store(), ("load", "x", ANY_A), BACK)), ((), ()))
        self.told(code_of(block(store(ANY_A), LOAD, BACK)), ((), ()))
        # It is read, then stored over.
        self.told(code_of(block(store(), LOAD, store(), BACK)), ((), (at(0, 2),)), (None, ()))

    def test_one_that_stands_in_a_shown_cell(self):
        code = code_of(block(store(), BACK))
        self.told(code, (None, ()), ((CELL,), ()), ((), (at(0, 0),)), ((("a", 1), ("b", 0)), (at(0, 0),)), (cells_in(code), ()))
        self.same(dead(code), ())

    def test_shown_where_main_ends_alone(self):
        code = code_of(block(call(), store(), BACK), sub=(block(store(), BACK),))
        self.told(code, (None, (at(0, 0, "sub"),)))
        # One that stands there though it never ENDS is not seen.
        self.told(code_of(block(store(), ("go", 0))), (None, (at(0, 0),)))
        self.told(code_of(block(store(), call(), BACK), sub=NEVER), (None, (at(0, 0),)))
        self.told(code_of(block(("if", "x", 1, 2)), block(store(), ("go", 1)), block(store(), BACK)), (None, (at(1, 0),)))

    def test_each_back_of_main(self):
        code = code_of(block(("if", "x", 1, 2)), block(store(), BACK), block(store(), BACK))
        self.told(code, (None, ()), ((CELL,), ()), ((), (at(1, 0), at(2, 0))))

    def test_stored_over_on_all_ways(self):
        self.told(code_of(block(store(), store(), BACK)), (None, (at(0, 0),)))
        code = code_of(block(store(), ("if", "x", 1, 2)), block(store(), ("go", 3)), block(store(), ("go", 3)), block(LOAD, BACK))
        self.told(code, (None, (at(0, 0),)))
        self.told(code_of(block(store(), call(), LOAD, BACK), sub=(block(store(), BACK),)), (None, (at(0, 0),)))

    def test_stored_over_on_one_way_alone(self):
        code = code_of(block(store(), ("if", "x", 1, 2)), block(store(), ("go", 2)), block(LOAD, BACK))
        self.told(code, (None, ()), ((), ()))
        code = code_of(block(store(), call(), LOAD, BACK), sub=(block(("if", "x", 1, 2)), block(store(), BACK), block(BACK)))
        self.told(code, (None, ()), ((), ()))

    def test_stored_over_perhaps(self):
        self.told(code_of(block(store(), store(ANY_A), BACK)), (None, ()), ((CELL,), ()), ((("a", 1),), (at(0, 0),)))

    def test_one_that_is_not_met(self):
        self.told(code_of(block(BACK), block(store(), LOAD, BACK)), (None, (at(1, 0),)))
        self.told(code_of(block(LOAD, BACK), sub=(block(store(), LOAD, BACK),)), (None, (at(0, 0, "sub"),)))
        self.told(code_of(block(call(), store(), LOAD, BACK), sub=NEVER), (None, (at(0, 1),)))

    def test_read_only_by_what_is_not_met(self):
        self.told(code_of(block(store(), call(), LOAD, BACK), sub=NEVER), (None, (at(0, 0),)))

    def test_a_store_of_several_cells_of_which_one_is_read(self):
        code = code_of(block(store(ANY_A), ("load", "x", (("a",), 0, 2)), BACK))
        self.told(code, ((), ()), (None, ()))
        # Of two of them only one is stored over.
        code = code_of(block(store((("a", "b"), "p", 0)), store(), BACK))
        self.told(code, (None, ()), ((CELL,), (at(0, 0),)), ((("b", 0),), (at(0, 1),)), ((), (at(0, 0), at(0, 1))))

    def test_read_in_other_routines(self):
        code = code_of(block(store(), call(), store(), BACK), sub=(block(LOAD, BACK),))
        self.told(code, ((), (at(0, 2),)), (None, ()))
        code = code_of(block(call(), LOAD, BACK), sub=(block(store(), BACK),))
        self.told(code, ((), ()))
        sub = (block(("if", "x", 1, 2)), block(store(), call(), BACK), block(LOAD, BACK))
        self.told(code_of(block(call(), BACK), sub=sub), ((), ()))

    def test_rising(self):
        rows = [store()] * 12
        code = code_of(block(*rows, call("aub"), BACK), aub=(block(*rows, BACK),), zub=(block(store(), BACK),))
        want = tuple([at(0, row, "aub") for row in range(11)] + [at(0, row) for row in range(12)] + [at(0, 0, "zub")])
        self.told(code, (None, want))

    def test_against_all_that_can_be_tried(self):
        codes = [CODE] + [some_code(seed) for seed in range(60)] + [busy_code(seed) for seed in range(150)]
        for number, code in enumerate(codes):
            cells = cells_in(code)
            for shown in (cells, (), cells[:1 + number % 2], cells[1:]):
                live = live_by_trying(code, shown)
                self.same(dead(code, shown), tuple([place for place in stores(code) if place not in live]))
            self.same(dead(code), dead(code, cells))
            self.same(dead(code, None), dead(code, cells))

    def test_against_free_ways(self):
        for seed in range(60):
            code = busy_code(seed, 2)
            for shown in (cells_in(code), (), (CELL,)):
                live = live_by_ways(code, shown, 14)
                told = dead(code, shown)
                self.assertFalse(live & set(told))
                if live == live_by_ways(code, shown, 9):
                    self.same(told, tuple([place for place in stores(code) if place not in live]))

    def test_with_fewer_shown_none_comes_to_be_live(self):
        for seed in range(20):
            code = busy_code(seed)
            for many in range(len(cells_in(code)) + 1):
                for shown in itertools.combinations(cells_in(code), many):
                    self.assertTrue(set(dead(code)) <= set(dead(code, shown)) <= set(dead(code, ())))

    def test_other_rows_exchanged_turn_nothing(self):
        for row in (("tell", "x"), ("need", 0), ("set", "y", "*", 2, 2), ("touch", ANY_A)):
            code = code_of(block(row, store(), row, store(), call(), BACK), sub=(block(row, LOAD, store(A1), store(A1), BACK),))
            self.told(code, ((), (at(0, 1), at(0, 2, "sub"), at(0, 3, "sub"))), (None, (at(0, 1), at(0, 2, "sub"))))

    def test_by_name(self):
        code = (OBJECTS, (("main", (block(store(), BACK),)),))
        self.same(dead(code=code), ())
        self.same(dead(shown=(), code=code), (at(0, 0),))
        self.same(dead(code, shown=None), ())


if __name__ == "__main__":
    unittest.main()
