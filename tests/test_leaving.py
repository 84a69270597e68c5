"""[74]: "store" ROWS left out."""

import unittest

from storeways.codes import places_in, row_at
from storeways.dead import dead
from storeways.deadchecker import lets_dead
from storeways.errors import NoTurning
from storeways.faces import cells_in
from storeways.leaving import leave
from storeways.turnchecker import lets_turning
from storeways.turnings import turned
from tests.samples import (
    A0, ANY_A, BACK, CELL, CODE, LOAD, M, STORE, STRANGE, Case, block, busy_code, code_of, some_code, sure_code,
)


class LeaveCase(Case):
    def leaves(self, code, place, shown=None):
        """The TURNING is told and let by."""
        turning = self.untouched(leave, code, place, shown)
        self.same(turning[:2], ("left", place))
        self.same(lets_turning(code, shown, turning), turned(code, turning))
        self.assertIs(lets_dead(code, place, shown, turning[2]), True)

    def no_turning(self, word, *things):
        with self.assertRaises(NoTurning) as caught:
            leave(*things)
        self.same(caught.exception.word, word)


class TestLeave(LeaveCase):
    def test_one_that_is_dead(self):
        code = code_of(block(STORE, STORE, LOAD, BACK))
        for shown in (None, (), (CELL,), cells_in(code)):
            self.leaves(code, M[0], shown)
        self.leaves(code_of(block(("store", ANY_A, 1), BACK)), M[0], (("b", 0),))
        self.leaves(code_of(block(BACK), sub=(block(STORE, LOAD, BACK),)), ("sub", 0, 0))

    def test_one_that_is_live(self):
        code = code_of(block(STORE, STORE, LOAD, STORE, BACK))
        for shown in (None, (), (CELL,)):
            self.no_turning("live", code, M[1], shown)
        self.no_turning("live", code, M[3], None)
        self.no_turning("live", code, M[3], (CELL,))
        self.no_turning("live", code, M[3])
        self.leaves(code, M[3], ())
        self.leaves(code, M[3], (("a", 1),))

    def test_no_store(self):
        code = code_of(block(("tell", 1), STORE, LOAD, ("touch", A0), ("set", "x", "+", 1, 1), ("need", 1), BACK))
        odd = [("main", 0, row) for row in (0, 2, 3, 4, 5, 6, 7)]
        odd.extend([("main", 0, True), ("main", False, 1), ["main", 0, 1], ("main", 1), CELL, 0, "main", ("none", 0, 0), ("main", 0, -1)])
        for thing in (*STRANGE, *odd):
            for shown in (None, ()):
                self.no_turning("place", code, thing, shown)

    def test_of_each_place(self):
        codes = [CODE] + [some_code(seed) for seed in range(30)] + [busy_code(seed) for seed in range(50)] + [sure_code(seed) for seed in range(50)]
        for number, code in enumerate(codes):
            shown = (None, (), cells_in(code)[:1])[number % 3]
            gone = dead(code, shown)
            for place in places_in(code):
                if place in gone:
                    self.leaves(code, place, shown)
                else:
                    self.no_turning("live" if row_at(code, place)[0] == "store" else "place", code, place, shown)

    def test_by_name(self):
        code = code_of(block(STORE, BACK))
        self.same(leave(shown=(), place=M[0], code=code)[:2], ("left", M[0]))
        with self.assertRaises(NoTurning):
            leave(code=code, place=M[0])


if __name__ == "__main__":
    unittest.main()
