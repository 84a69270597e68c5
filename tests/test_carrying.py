"""[74]: "load" ROWS carried from their one "store"."""

import unittest

from storeways.carrying import carry
from storeways.codes import names_in, places_in, row_at
from storeways.errors import NoTurning
from storeways.faces import face
from storeways.kinds import is_word
from storeways.sources import sources
from storeways.tablechecker import lets_table
from storeways.turnchecker import lets_turning
from storeways.turnings import turned
from tests.samples import (
    A0, A1, ANY_A, BACK, CELL, CODE, LOAD, M, PERHAPS, STORE, STRANGE, Case, block, busy_code, code_of, some_code,
    sure_code,
)

LETTERS = "abcdefghijklmnopqrstuvwxyz"


class TestCarry(Case):
    def carries(self, code, place, store, *name):
        """The TURNING is told by this NAME, or by a free one, and let by."""
        turning = self.untouched(carry, code, place, *name)
        self.same((*turning[:2], turning[3]), ("carried", place, store))
        self.assertTrue(is_word(turning[2]) and turning[2] not in names_in(code))
        if name and name[0] is not None:
            self.same(turning[2], name[0])
        self.same(lets_turning(code, (), turning), turned(code, turning))
        self.assertIs(lets_table(code, face(code, row_at(code, place)[2])[0], turning[4]), True)
        return turning

    def no_turning(self, word, *things):
        with self.assertRaises(NoTurning) as caught:
            carry(*things)
        self.same(caught.exception.word, word)

    def test_rows(self):
        self.carries(code_of(block(STORE, LOAD, BACK)), M[1], M[0])
        self.carries(code_of(block(STORE, ("store", A1, 1), LOAD, BACK)), M[2], M[0])
        self.carries(code_of(block(PERHAPS, STORE, ("tell", 1), LOAD, BACK)), M[3], M[1])

    def test_blocks_and_routines(self):
        self.carries(code_of(block(STORE, ("if", "x", 1, 2)), block(("go", 2)), block(LOAD, BACK)), ("main", 2, 0), M[0])
        code = code_of(block(STORE, ("call", "sub"), LOAD, BACK), sub=(block(LOAD, BACK),))
        self.carries(code, M[2], M[0])
        self.carries(code, ("sub", 0, 0), M[0])
        code = code_of(block(("call", "sub"), LOAD, BACK), sub=(block(STORE, BACK),))
        self.carries(code, M[1], ("sub", 0, 0))

    def test_a_name_that_is_handed_in(self):
        code = code_of(block(("store", A0, "y"), LOAD, BACK))
        for name in ("new", "a", "b", "main", "z", "abcdefgh", None):
            self.carries(code, M[1], M[0], name)
        for name in ("x", "y", "abcdefghi", "New", "n1", ["new"], ("new",), 0, *STRANGE[1:]):
            self.no_turning("name", code, M[1], name)

    def test_a_name_where_many_are_taken(self):
        for words in (LETTERS, [one + other for one in ("", *LETTERS) for other in LETTERS][:720], [one + other for one in ("", *LETTERS) for other in LETTERS],
                      LETTERS[:5] + LETTERS[6:], [*LETTERS[1:], "aa", "ab"]):
            code = code_of(block(STORE, *[("tell", word) for word in words], ("load", "a", A0), BACK))
            self.carries(code, ("main", 0, len(words) + 1), M[0])

    def test_names_rise_letter_by_letter(self):
        code = code_of(block(STORE, ("load", "a", A0), BACK))
        self.same(carry(code, M[1])[2], "b")
        code = code_of(block(STORE, *[("tell", letter) for letter in LETTERS], ("load", "a", A0), BACK))
        self.same(carry(code, ("main", 0, 27))[2], "aa")

    def test_no_load_of_one_cell(self):
        code = code_of(block(("tell", 1), LOAD, STORE, ("touch", A0), ("set", "x", "+", 1, 1), ("load", "y", ANY_A), BACK))
        odd = [("main", 0, row) for row in (0, 2, 3, 4, 5, 6, 7)]
        odd.extend([("main", 0, True), ("main", False, 1), ["main", 0, 1], ("main", 1), CELL, 0, "main", ("none", 0, 0), ("main", 0, -1)])
        for thing in (*STRANGE, *odd):
            for name in (None, "new", "x", []):
                self.no_turning("place", code, thing, name)

    def test_sources(self):
        for code, place in ((code_of(block(LOAD, BACK)), M[0]), (code_of(block(PERHAPS, LOAD, BACK)), M[1]), (code_of(block(STORE, PERHAPS, LOAD, BACK)), M[2]),
                            (code_of(block(BACK), block(STORE, LOAD, BACK)), ("main", 1, 1)), (code_of(block(LOAD, STORE, ("go", 0))), M[0]),
                            (code_of(block(STORE, ("if", "x", 1, 2)), block(STORE, ("go", 2)), block(LOAD, BACK)), ("main", 2, 0))):
            for name in (None, "new", "x", True, ()):
                self.no_turning("sources", code, place, name)

    def test_a_store_of_several_cells_is_never_one_alone(self):
        for code in (code_of(block(PERHAPS, LOAD, BACK)), ((("a", 2),), (("main", (block(PERHAPS, LOAD, ("go", 0)),)),))):
            self.same(sources(code, M[1]), (None, M[0]))
            self.no_turning("sources", code, M[1])

    def test_of_each_place(self):
        for code in [CODE] + [some_code(seed) for seed in range(30)] + [busy_code(seed) for seed in range(50)] + [sure_code(seed) for seed in range(80)]:
            for place in places_in(code):
                row = row_at(code, place)
                if row[0] != "load" or len(face(code, row[2])) > 1:
                    self.no_turning("place", code, place)
                    continue
                found = sources(code, place)
                if len(found) == 1 and found[0] is not None and face(code, row_at(code, found[0])[1]) == face(code, row[2]):
                    self.carries(code, place, found[0])
                else:
                    self.no_turning("sources", code, place)

    def test_by_name(self):
        code = code_of(block(STORE, LOAD, BACK))
        self.same(carry(name="new", place=M[1], code=code)[:4], ("carried", M[1], "new", M[0]))
        self.same(carry(code=code, place=M[1])[:2], ("carried", M[1]))


if __name__ == "__main__":
    unittest.main()
