"""[65]: FIRST READS, and ways to them."""

import unittest

from storeways.codes import places_in, places_with
from storeways.errors import NoPlace
from storeways.firsts import first_reads, first_way
from storeways.sources import sources
from storeways.waychecker import shows
from tests.samples import (
    A0, A1, ANY_A, BACK, CELL, CODE, LEAST, LOAD, M, NEVER, STRANGE, Case, block, busy_code, code_of, some_code,
    store,
)
from tests.tried import shown_by_ways


class TestFirsts(Case):
    def told(self, code, *want):
        """Just these are told, each with a way; all other PLACES are refused."""
        self.same(self.untouched(first_reads, code), want)
        for place in places_in(code):
            if place in want:
                way = self.untouched(first_way, code, place)
                self.same(shows(code, way), (place, None))
            else:
                self.refused(NoPlace, {"place": place}, first_way, code, place)

    def test_none(self):
        self.told(LEAST)
        self.told(code_of(block(store(), LOAD, BACK)))

    def test_rows(self):
        self.told(code_of(block(LOAD, BACK)), M[0])
        self.told(code_of(block(LOAD, store(), LOAD, BACK)), M[0])
        self.told(code_of(block(store(A1), LOAD, BACK)), M[1])
        self.told(code_of(block(store(ANY_A), LOAD, LOAD, BACK)), M[1], M[2])
        self.told(code_of(block(store(), ("load", "x", ANY_A), BACK)), M[1])
        self.told(code_of(block(("tell", 1), ("touch", A0), LOAD, BACK)), M[2])

    def test_another_cell_is_stored_ahead(self):
        self.same(first_way(code_of(block(store(), ("load", "x", (("a", "b"), "p", 0)), BACK)), M[1]), ((M[0], CELL), (M[1], ("b", 0))))
        self.assertNotEqual(first_way(code_of(block(store(ANY_A), LOAD, BACK)), M[1])[0][1], CELL)

    def test_branches_and_loops(self):
        code = code_of(block(("if", "x", 1, 2)), block(store(), ("go", 2)), block(LOAD, BACK))
        self.told(code, ("main", 2, 0))
        code = code_of(block(store(), ("go", 1)), block(LOAD, ("if", "x", 0, 1)))
        self.told(code)
        self.told(code_of(block(LOAD, store(), ("go", 0))), M[0])

    def test_calls(self):
        self.told(code_of(block(("call", "sub"), LOAD, BACK), sub=(block(LOAD, store(), BACK),)), ("sub", 0, 0))
        sub = (block(("if", "x", 1, 2)), block(store(), BACK), block(("call", "sub"), BACK))
        self.told(code_of(block(("call", "sub"), LOAD, BACK), sub=sub))
        sub = (block(("if", "x", 1, 2)), block(store(), BACK), block(LOAD, BACK))
        self.told(code_of(block(("call", "sub"), ("call", "sub"), LOAD, BACK), sub=sub), M[2], ("sub", 2, 0))

    def test_one_that_no_way_comes_to(self):
        self.told(code_of(block(BACK), block(LOAD, BACK)))
        self.told(code_of(block(BACK), sub=(block(LOAD, BACK),)))
        self.told(code_of(block(("call", "sub"), LOAD, BACK), sub=NEVER))

    def test_made_code(self):
        for code in [CODE] + [some_code(seed) for seed in range(40)] + [busy_code(seed) for seed in range(80)]:
            self.told(code, *[place for place in places_with(code, "load") if None in sources(code, place)])

    def test_against_free_ways(self):
        for seed in range(30):
            code = busy_code(seed, 2)
            shown = {read for read, cell, source in shown_by_ways(code, 10) if source is None}
            self.assertTrue(shown <= set(first_reads(code)))

    def test_refused(self):
        code = code_of(block(("tell", 1), LOAD, BACK))
        for thing in (*STRANGE, ("main", 0, True), ("main", False, 1), ["main", 0, 1], ("main", 0), CELL, 0, "main", ("none", 0, 0), ("main", [], 0)):
            self.refused(NoPlace, {"place": thing}, first_way, code, thing)
        self.told(code, M[1])

    def test_other_rows_exchanged_turn_nothing(self):
        for row in (("tell", "x"), ("need", 0), ("set", "y", "*", 2, 2), ("touch", ANY_A)):
            self.told(code_of(block(row, store(ANY_A), row, LOAD, ("call", "sub"), BACK), sub=(block(row, store(), LOAD, BACK),)), M[3])

    def test_by_name(self):
        code = code_of(block(LOAD, BACK))
        self.same(first_reads(code=code), (M[0],))
        self.same(first_way(place=M[0], code=code), ((M[0], CELL),))


if __name__ == "__main__":
    unittest.main()
