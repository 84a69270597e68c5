"""[19] to [22]: AROUNDS and FENCES looked at, whoever wrote them."""

import itertools
import unittest

from storeways.domchecker import lets_around, lets_fence
from storeways.dominance import dominates
from tests.samples import BACK, CODE, LEAST, STRANGE, Case, ends_only, said

MEET = ends_only(("if", "x", 1, 2), ("go", 3), ("go", 3), BACK)
ROW = ends_only(("go", 1), ("go", 2), ("if", "x", 3, 2), ("go", 0))
LOST = ends_only(("go", 1), BACK, ("if", "x", 1, 3), ("go", 2))


class TestCase(Case):
    def lets(self, function, code, over, under, *things, name="main"):
        for thing in things:
            self.assertIs(self.untouched(function, code, name, over, under, thing), True)

    def refuses(self, function, code, over, under, *cases, name="main"):
        """Each case is (thing, word, at)."""
        for thing, word, at in cases:
            self.no_paper(word, at, function, code, name, over, under, thing)


class TestAround(TestCase):
    def test_let_by(self):
        self.lets(lets_around, MEET, 1, 3, (0, 2, 3))
        self.lets(lets_around, MEET, 3, 0, (0,))
        self.lets(lets_around, ROW, 3, 2, (0, 1, 2), (0, 1, 2, 2), (0, 1, 2, 2, 2, 2))
        self.lets(lets_around, LOST, 2, 1, (0, 1))
        self.lets(lets_around, CODE, 1, 0, (0,), (0, 0, 0), name="sub")

    def test_long_ones(self):
        self.lets(lets_around, ROW, 3, 2, (0, 1) + (2,) * 190000)
        self.refuses(lets_around, ROW, 3, 2, ((0, 1) + (2,) * 190000 + (3,), "over", 190002))

    def test_shape(self):
        for thing in STRANGE:
            self.refuses(lets_around, ROW, 3, 2, (thing, "shape", -1))
        for thing in ([0, 1, 2], (0, [1], 2), (0, True, 2), (False, 1, 2), (0, "1", 2), (0, None), ((0, 1, 2),), 0):
            self.refuses(lets_around, ROW, 3, 2, (thing, "shape", -1))

    def test_shape_ahead_of_all(self):
        self.refuses(lets_around, ROW, 3, 2, ((1, 3, True), "shape", -1), ((3, 3, None), "shape", -1))

    def test_next(self):
        self.refuses(lets_around, ROW, 3, 2, ((1, 2), "next", 0), ((3,), "next", 0), ((-1, 0), "next", 0), ((10 ** 150,), "next", 0),
                     ((0, 2), "next", 1), ((0, 0), "next", 1), ((0, 1, 2, 1), "next", 3), ((0, 1, 9), "next", 2),
                     ((0, 1, -1), "next", 2))
        self.refuses(lets_around, LOST, 3, 2, ((0, 1, 2), "next", 2), ((2,), "next", 0))

    def test_over(self):
        self.refuses(lets_around, MEET, 1, 3, ((0, 1, 3), "over", 1), ((0, 1), "over", 1))
        self.refuses(lets_around, MEET, 3, 3, ((0, 1, 3), "over", 2))
        self.refuses(lets_around, MEET, 0, 3, ((0, 1, 3), "over", 0), ((0,), "over", 0), ((0, 3), "over", 0))
        self.refuses(lets_around, LEAST, 0, 0, ((0,), "over", 0))

    def test_last(self):
        self.refuses(lets_around, MEET, 1, 3, ((0, 2), "last", -1), ((0,), "last", -1))
        self.refuses(lets_around, MEET, 1, 1, ((0, 2, 3), "last", -1))

    def test_the_first_of_several(self):
        self.refuses(lets_around, MEET, 1, 2, ((0, 1, 2), "over", 1), ((0, 3, 1), "next", 1), ((1,), "next", 0), ((0, 2, 1), "next", 2))
        self.refuses(lets_around, MEET, 3, 3, ((3,), "next", 0), ((0, 3), "next", 1))

    def test_what_is_let_by_is_so(self):
        for code in (MEET, ROW, LOST):
            for over, under in itertools.product(range(4), repeat=2):
                ways = [way for many in range(1, 5) for way in itertools.product(range(4), repeat=many)]
                let = [way for way in ways if said(lets_around, code, "main", over, under, way) is True]
                self.assertEqual(not let, dominates(code, "main", over, under))
                for way in let:
                    self.assertTrue(way[0] == 0 and way[-1] == under and over not in way)

    def test_by_name(self):
        self.assertIs(lets_around(thing=(0, 2, 3), under=3, over=1, name="main", code=MEET), True)


class TestFence(TestCase):
    def test_let_by(self):
        self.lets(lets_fence, ROW, 1, 2, (0,))
        self.lets(lets_fence, ROW, 0, 2, (), (3,))
        self.lets(lets_fence, ROW, 2, 2, (0, 1), (0, 1, 3))
        self.lets(lets_fence, LOST, 1, 2, (0,))
        self.lets(lets_fence, LOST, 0, 2, (), (1,))
        self.lets(lets_fence, LOST, 3, 3, (0, 1), (0, 1, 2))
        self.lets(lets_fence, CODE, 1, 1, (0,), name="sub")
        self.lets(lets_fence, LEAST, 0, 0, ())

    def test_shape(self):
        for thing in STRANGE:
            if thing != ():
                self.refuses(lets_fence, ROW, 1, 2, (thing, "shape", -1))
        for thing in ([0], (False,), (0, True), (0, "1"), (0, None), (0, (3,)), 0, "0"):
            self.refuses(lets_fence, ROW, 1, 2, (thing, "shape", -1))
        for thing in ((3, 0), (0, 0), (0, 3, 3), (-1, 0), (-1,), (0, 4), (4,), (0, 10 ** 150)):
            self.refuses(lets_fence, ROW, 1, 2, (thing, "shape", -1))
        self.refuses(lets_fence, CODE, 1, 1, ((0, 2), "shape", -1), name="sub")

    def test_shape_ahead_of_all(self):
        self.refuses(lets_fence, ROW, 1, 2, ((2, 1), "shape", -1), ((1, 2, True), "shape", -1), ((1, 4), "shape", -1))

    def test_in(self):
        self.refuses(lets_fence, ROW, 1, 2, ((0, 1), "in", 1), ((0, 2), "in", 2), ((0, 1, 2), "in", 1), ((1, 2, 3), "in", 1))
        self.refuses(lets_fence, ROW, 2, 1, ((0, 1, 2), "in", 1))
        self.refuses(lets_fence, ROW, 3, 0, ((0, 3), "in", 0), ((3,), "in", 3))
        self.refuses(lets_fence, ROW, 0, 0, ((0, 1), "in", 0))

    def test_first(self):
        self.refuses(lets_fence, ROW, 1, 2, ((), "first", -1), ((3,), "first", -1))
        self.refuses(lets_fence, ROW, 1, 0, ((), "first", -1))
        self.lets(lets_fence, ROW, 0, 2, ())

    def test_next(self):
        self.refuses(lets_fence, ROW, 2, 2, ((0,), "next", 0), ((0, 3), "next", 0))
        self.refuses(lets_fence, ROW, 3, 3, ((0, 1), "next", 1))
        self.refuses(lets_fence, MEET, 1, 3, ((0, 2), "next", 2), ((0,), "next", 0))
        self.refuses(lets_fence, ROW, 0, 3, ((1,), "next", 1), ((1, 2), "next", 2))
        self.lets(lets_fence, ROW, 3, 3, (0, 1, 2))

    def test_the_first_of_several(self):
        self.refuses(lets_fence, ROW, 1, 2, ((2, 3), "in", 2), ((1,), "in", 1))
        self.refuses(lets_fence, ROW, 3, 2, ((1,), "first", -1))
        self.refuses(lets_fence, ROW, 3, 3, ((0, 2), "next", 0))

    def test_what_is_let_by_is_so(self):
        fences = [fenced for many in range(5) for fenced in itertools.combinations(range(4), many)]
        for code in (MEET, ROW, LOST):
            for over, under in itertools.product(range(4), repeat=2):
                let = [fenced for fenced in fences if said(lets_fence, code, "main", over, under, fenced) is True]
                self.assertEqual(bool(let), dominates(code, "main", over, under))

    def test_by_name(self):
        self.assertIs(lets_fence(thing=(0,), under=2, over=1, name="main", code=ROW), True)


if __name__ == "__main__":
    unittest.main()
