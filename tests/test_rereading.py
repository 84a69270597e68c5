"""[74]: "load" ROWS that give place to a NAME that HOLDS their CELL."""

import unittest

from storeways.codes import names_in, places_in, row_at
from storeways.errors import NoTurning
from storeways.faces import face
from storeways.freeing import met_places
from storeways.holdchecker import lets_holds
from storeways.rereading import reread
from storeways.turnchecker import lets_turning
from storeways.turnings import turned
from tests.samples import (
    A0, A1, ANY_A, BACK, CELL, CODE, LOAD, M, STORE, STRANGE, Case, block, busy_code, code_of, some_code, sure_code,
)
from tests.tried import tried_holds

FIRST = ("load", "y", A0)


class TestReread(Case):
    def rereads(self, code, place, *names):
        """The TURNING is told by one of these NAMES, and let by."""
        turning = self.untouched(reread, code, place)
        self.same(turning[:2], ("again", place))
        self.assertIn(turning[2], names)
        self.same(lets_turning(code, None, turning), turned(code, turning))
        self.assertIs(lets_holds(code, turning[2], face(code, row_at(code, place)[2])[0], turning[3]), True)

    def no_turning(self, word, code, thing):
        with self.assertRaises(NoTurning) as caught:
            reread(code, thing)
        self.same(caught.exception.word, word)

    def test_rows(self):
        self.rereads(code_of(block(FIRST, LOAD, BACK)), M[1], "y")
        self.rereads(code_of(block(LOAD, LOAD, BACK)), M[1], "x")
        self.rereads(code_of(block(FIRST, LOAD, ("load", "z", A0), BACK)), M[2], "x", "y")
        self.rereads(code_of(block(FIRST, ("store", A1, 1), ("set", "x", "+", 1, 1), LOAD, BACK)), M[3], "y")

    def test_none_holds(self):
        self.no_turning("holds", code_of(block(LOAD, BACK)), M[0])
        self.no_turning("holds", code_of(block(FIRST, STORE, LOAD, BACK)), M[2])
        self.no_turning("holds", code_of(block(FIRST, ("store", ANY_A, 1), LOAD, BACK)), M[2])
        self.no_turning("holds", code_of(block(FIRST, ("set", "y", "+", "y", 1), LOAD, BACK)), M[2])
        self.no_turning("holds", code_of(block(("load", "y", ANY_A), LOAD, BACK)), M[1])
        self.no_turning("holds", code_of(block(("load", "y", A1), LOAD, BACK)), M[1])
        self.no_turning("holds", code_of(block(("if", "x", 1, 2)), block(FIRST, ("go", 2)), block(LOAD, BACK)), ("main", 2, 0))
        # A "store" ahead lets nothing be HELD: only a "load" does.
        self.no_turning("holds", code_of(block(("store", A0, "y"), LOAD, BACK)), M[1])

    def test_blocks_and_routines(self):
        self.rereads(code_of(block(("if", "x", 1, 2)), block(FIRST, ("go", 3)), block(FIRST, ("go", 3)), block(LOAD, BACK)), ("main", 3, 0), "y")
        self.rereads(code_of(block(FIRST, ("go", 1)), block(LOAD, ("if", "x", 1, 1))), ("main", 1, 0), "y")
        code = code_of(block(FIRST, ("call", "sub"), LOAD, BACK), sub=(block(("load", "z", A0), BACK),))
        self.rereads(code, M[2], "y", "z")
        self.rereads(code, ("sub", 0, 0), "y")

    def test_not_met(self):
        self.no_turning("met", code_of(block(FIRST, BACK), block(FIRST, LOAD, BACK)), ("main", 1, 1))
        self.no_turning("met", code_of(block(BACK), sub=(block(FIRST, LOAD, BACK),)), ("sub", 0, 1))
        self.no_turning("met", code_of(block(FIRST, ("call", "sub"), LOAD, BACK), sub=(block(("go", 0)),)), M[2])

    def test_no_load_of_one_cell(self):
        code = code_of(block(("tell", 1), LOAD, STORE, ("touch", A0), ("set", "x", "+", 1, 1), ("load", "y", ANY_A), BACK), block(("load", "y", ANY_A), BACK))
        odd = [("main", 0, row) for row in (0, 2, 3, 4, 5, 6, 7)]
        odd.extend([("main", 0, True), ("main", False, 1), ["main", 0, 1], ("main", 1), CELL, 0, "main", ("none", 0, 0), ("main", 0, -1), ("main", 1, 0)])
        for thing in (*STRANGE, *odd):
            self.no_turning("place", code, thing)

    def test_of_each_place(self):
        for code in [CODE] + [some_code(seed) for seed in range(20)] + [busy_code(seed) for seed in range(30)] + [sure_code(seed) for seed in range(80)]:
            met = met_places(code)
            for place in places_in(code):
                row = row_at(code, place)
                cells = face(code, row[2]) if row[0] == "load" else ()
                if len(cells) != 1:
                    self.no_turning("place", code, place)
                elif place not in met:
                    self.no_turning("met", code, place)
                else:
                    names = [name for name in names_in(code) if tried_holds(code, name, cells[0])[place]]
                    if names:
                        self.rereads(code, place, *names)
                    else:
                        self.no_turning("holds", code, place)

    def test_by_name(self):
        code = code_of(block(FIRST, LOAD, BACK))
        self.same(reread(place=M[1], code=code)[:3], ("again", M[1], "y"))


if __name__ == "__main__":
    unittest.main()
