"""[19] to [22]: papers on which block DOMINATES which, told."""

import unittest

from storeways.codes import blocks_of, routines_of
from storeways.domchecker import lets_around, lets_fence
from storeways.dominance import dominates
from storeways.dompapers import around, fence
from tests.samples import BACK, CODE, LEAST, Case, ends_only, some_code

MEET = ends_only(("if", "x", 1, 2), ("go", 3), ("go", 3), BACK)
LOST = ends_only(("if", "x", 1, 2), ("go", 2), BACK, ("if", "x", 1, 4), ("go", 3))


class TestPapers(Case):
    def just_one(self, code, name):
        """Of all two blocks just one paper is told, it is let by, and it is the one that is due."""
        many = len(blocks_of(code, name))
        for over in range(many):
            for under in range(many):
                way = self.untouched(around, code, name, over, under)
                fenced = self.untouched(fence, code, name, over, under)
                if dominates(code, name, over, under):
                    self.assertIsNone(way)
                    self.assertIs(lets_fence(code, name, over, under, fenced), True)
                else:
                    self.assertIsNone(fenced)
                    self.assertIs(lets_around(code, name, over, under, way), True)

    def test_just_one_of_both(self):
        for code in (LEAST, CODE, MEET, LOST, ends_only(("go", 1), ("go", 2), ("if", "x", 0, 2))):
            for name in routines_of(code):
                self.just_one(code, name)

    def test_just_one_of_both_of_made_code(self):
        for seed in range(60):
            code = some_code(seed)
            for name in routines_of(code):
                self.just_one(code, name)

    def test_around(self):
        self.same(around(MEET, "main", 1, 3), (0, 2, 3))
        self.same(around(MEET, "main", 2, 3), (0, 1, 3))
        self.same(around(MEET, "main", 3, 0), (0,))
        self.same(around(MEET, "main", 3, 1), (0, 1))
        self.same(around(LOST, "main", 3, 1), (0, 1))
        self.same(around(CODE, "sub", 1, 0), (0,))

    def test_no_around(self):
        for over, under in ((0, 0), (0, 3), (1, 1), (3, 3)):
            self.assertIsNone(around(MEET, "main", over, under))
        for over in range(5):
            self.assertIsNone(around(LOST, "main", over, 3))

    def test_fence(self):
        code = ends_only(("go", 1), ("go", 2), BACK)
        self.same(fence(code, "main", 1, 2), (0,))
        self.same(fence(code, "main", 0, 2), ())
        self.same(fence(code, "main", 2, 2), (0, 1))
        self.same(fence(LEAST, "main", 0, 0), ())

    def test_no_fence(self):
        for over, under in ((1, 0), (1, 3), (2, 1), (3, 2)):
            self.assertIsNone(fence(MEET, "main", over, under))

    def test_by_name(self):
        self.same(around(code=MEET, name="main", over=1, under=3), (0, 2, 3))
        self.same(fence(under=2, over=2, name="main", code=ends_only(("go", 1), ("go", 2), BACK)), (0, 1))


if __name__ == "__main__":
    unittest.main()
