"""[61], [64]: of each "store" the word, and a paper that is let by."""

import itertools
import unittest

from storeways.codes import places_with, row_at
from storeways.dead import dead
from storeways.deadchecker import lets_dead, lets_live
from storeways.deadpapers import live_or_dead
from storeways.errors import NoPlace
from storeways.faces import cells_in, face
from storeways.freeing import met_places
from tests.samples import (
    A0, A1, ANY_A, BACK, CELL, CODE, LEAF, LEAST, LOAD, M, NEVER, STRANGE, Case, block, busy_code, call, code_of,
    said, some_code, store,
)


class TestLiveOrDead(Case):
    def told(self, code, place, shown, want):
        """want is "dead", or how the LIVE PAPER is let by; the other checker refuses the paper."""
        word, paper = self.untouched(live_or_dead, code, place, shown)
        self.same(word, "dead" if want == "dead" else "live")
        if want == "dead":
            self.assertIs(lets_dead(code, place, shown, paper), True)
            self.assertNotIn(said(lets_live, code, place, shown, paper), ("read", "end"))
        else:
            self.same(lets_live(code, place, shown, paper), want)
            self.assertIsNot(said(lets_dead, code, place, shown, paper), True)
        return paper

    def test_read(self):
        code = code_of(block(store(), LOAD, store(), BACK))
        for shown in (None, (), (CELL,), (("b", 0),)):
            self.told(code, M[0], shown, "read")
        self.same(live_or_dead(code, M[0]), ("live", ((M[0], CELL), (M[1], CELL))))

    def test_end(self):
        code = code_of(block(store(), BACK))
        for shown, want in ((None, "end"), ((CELL,), "end"), ((("a", 1),), "dead"), ((), "dead"), (cells_in(code), "end")):
            self.told(code, M[0], shown, want)
        self.same(live_or_dead(code, M[0]), ("live", ((M[0], CELL), (M[1], None))))

    def test_where_main_ends_alone(self):
        self.told(code_of(block(call(), store(), BACK), sub=(block(store(), BACK),)), ("sub", 0, 0), None, "dead")
        self.told(code_of(block(call(), BACK), sub=(block(store(), BACK),)), ("sub", 0, 0), None, "end")
        self.told(code_of(block(store(), ("go", 0))), M[0], None, "dead")
        self.told(code_of(block(store(), call(), BACK), sub=NEVER), M[0], None, "dead")

    def test_each_back_of_main(self):
        code = code_of(block(("if", "x", 1, 2)), block(store(), BACK), block(store(), BACK))
        for place in (("main", 1, 0), ("main", 2, 0)):
            self.told(code, place, None, "end")
            self.told(code, place, (), "dead")

    def test_a_store_of_several_cells(self):
        code = code_of(block(store(ANY_A), store(), store(A1), BACK))
        self.same(self.told(code, M[0], None, "end")[0], (M[0], ("a", 2)))
        self.told(code, M[0], (("a", 2),), "end")
        self.same(len(self.told(code, M[0], (CELL, ("a", 1)), "dead")), 3)
        code = code_of(block(store(ANY_A), store(), ("load", "x", A1), BACK))
        self.told(code, M[0], (), "read")
        code = code_of(block(store((("b", "a"), "p", "i")), store((("b", "a"), "p", "i")), BACK))
        self.same(len(self.told(code, M[0], (), "dead")), 5)

    def test_one_that_is_not_met(self):
        self.told(code_of(block(BACK), block(store(), LOAD, BACK)), ("main", 1, 0), None, "dead")
        self.told(code_of(block(LOAD, BACK), sub=(block(store(), LOAD, BACK),)), ("sub", 0, 0), None, "dead")
        self.told(code_of(block(call(), store(), LOAD, BACK), sub=NEVER), M[1], None, "dead")

    def test_read_in_other_routines(self):
        sub = (block(("if", "x", 1, 2)), block(store(), call(), BACK), block(LOAD, BACK))
        self.told(code_of(block(call(), BACK), sub=sub), ("sub", 1, 0), (), "read")
        code = code_of(block(store(), call(), BACK), sub=(block(call("zub"), BACK),), zub=(block(LOAD, BACK),))
        self.told(code, M[0], (), "read")

    def test_just_the_dead_ones(self):
        codes = [CODE] + [some_code(seed) for seed in range(40)] + [busy_code(seed) for seed in range(80)]
        for number, code in enumerate(codes):
            cells = cells_in(code)
            for shown in (None, (), cells[:1 + number % 3]):
                gone = dead(code, shown)
                for place in places_with(code, "store"):
                    word, paper = live_or_dead(code, place, shown)
                    self.assertEqual(word == "dead", place in gone)
                    if place in gone:
                        self.assertIs(lets_dead(code, place, shown, paper), True)
                        self.same(len(paper), len(face(code, row_at(code, place)[1])))
                    else:
                        self.assertIn(lets_live(code, place, shown, paper), ("read", "end"))
                        self.assertIn(place, met_places(code))

    def test_with_fewer_shown_none_comes_to_be_live(self):
        for seed in range(8):
            code = busy_code(seed)
            for place in places_with(code, "store"):
                words = [live_or_dead(code, place, shown)[0] for many in (3, 1, 0) for shown in itertools.combinations(cells_in(code), many)]
                self.assertEqual(live_or_dead(code, place), live_or_dead(code, place, cells_in(code)))
                if words[0] == "dead":
                    self.same(words, ["dead"] * len(words))
                if words[-1] == "live":
                    self.same(words, ["live"] * len(words))

    def test_other_rows_exchanged_turn_nothing(self):
        for row in (("tell", "x"), ("need", 0), ("set", "y", "*", 2, 2), ("touch", ANY_A)):
            code = code_of(block(row, store(), row, store(), call(), BACK), sub=(block(row, LOAD, store(A1), store(A1), BACK),))
            for place, want in ((M[1], "dead"), (M[3], "read"), (("sub", 0, 2), "dead"), (("sub", 0, 3), "end")):
                self.told(code, place, None, want)

    def test_no_store(self):
        code = code_of(block(LOAD, store(), ("tell", 1), ("touch", A0), ("set", "x", "+", 1, 1), ("need", 1), call(), BACK), sub=LEAF)
        odd = [("main", 0, row) for row in (0, 2, 3, 4, 5, 6, 7, 8)]
        odd.extend([("main", 0, True), ("main", False, 1), ("main", 0, -1), ("main", 1, 0), ("sub", 0, 0), ("none", 0, 0), ["main", 0, 1],
                    ("main", 1), ("main", 0, 1, 0), ("main", [0], 1), (True, 0, 1), 0, "main", CELL])
        for thing in (*STRANGE, *odd):
            for shown in (None, (), (CELL,)):
                self.refused(NoPlace, {"place": thing}, live_or_dead, code, thing, shown)
        self.refused(NoPlace, {"place": M[0]}, live_or_dead, LEAST, M[0])

    def test_by_name(self):
        code = code_of(block(store(), BACK))
        self.same(live_or_dead(code=code, place=M[0])[0], "live")
        self.same(live_or_dead(shown=(), place=M[0], code=code)[0], "dead")
        self.same(live_or_dead(code, M[0], shown=None)[0], "live")


if __name__ == "__main__":
    unittest.main()
