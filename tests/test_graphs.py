"""[14], [15]: which blocks GO TO which, and which are REACHED."""

import unittest

from storeways.codes import blocks_of, routines_of
from storeways.graphs import befores, nexts, reached
from tests.samples import BACK, CODE, LEAST, Case, ends_only, some_code


class TestGraphs(Case):
    def told(self, code, nexts_of_all, befores_of_all, reached_ones, name="main"):
        """Of each block of the routine what it GOES TO and what GOES TO it, and which are REACHED."""
        for number in range(len(blocks_of(code, name))):
            self.same(self.untouched(nexts, code, name, number), nexts_of_all[number])
            self.same(self.untouched(befores, code, name, number), befores_of_all[number])
        self.same(self.untouched(reached, code, name), reached_ones)

    def test_one_block_alone(self):
        self.told(LEAST, ((),), ((),), (0,))

    def test_one_block_that_goes_to_itself(self):
        self.told(ends_only(("go", 0)), ((0,),), ((0,),), (0,))
        self.told(ends_only(("if", "x", 0, 0)), ((0,),), ((0,),), (0,))

    def test_a_row(self):
        self.told(ends_only(("go", 1), ("go", 2), ("go", 3), BACK), ((1,), (2,), (3,), ()), ((), (0,), (1,), (2,)), (0, 1, 2, 3))

    def test_a_ring(self):
        self.told(ends_only(("go", 2), ("go", 0), ("go", 1)), ((2,), (0,), (1,)), ((1,), (2,), (0,)), (0, 1, 2))

    def test_a_block_behind_that_goes_to_itself(self):
        self.told(ends_only(("go", 1), ("go", 1)), ((1,), (1,)), ((), (0, 1)), (0, 1))

    def test_both_ways_of_an_if_are_rising(self):
        self.told(ends_only(("if", "x", 2, 1), BACK, BACK), ((1, 2), (), ()), ((), (0,), (0,)), (0, 1, 2))
        self.told(ends_only(("if", 0, 1, 2), BACK, BACK), ((1, 2), (), ()), ((), (0,), (0,)), (0, 1, 2))

    def test_an_if_with_the_same_block_twice(self):
        self.told(ends_only(("if", "x", 1, 1), BACK), ((1,), ()), ((), (0,)), (0, 1))

    def test_both_ways_count_whatever_the_operand_is(self):
        for operand in (0, 1, -1, "x"):
            self.same(reached(ends_only(("if", operand, 2, 1), BACK, BACK), "main"), (0, 1, 2))

    def test_blocks_to_which_nothing_goes(self):
        self.told(ends_only(BACK, ("go", 0), ("if", "x", 1, 3), ("go", 2)), ((), (0,), (1, 3), (2,)), ((1,), (2,), (3,), (2,)), (0,))
        self.told(ends_only(("go", 2), BACK, BACK), ((2,), (), ()), ((), (), (0,)), (0, 2))

    def test_several_before_one(self):
        code = ends_only(("if", "x", 3, 1), ("go", 3), ("go", 3), ("if", "x", 0, 3))
        self.told(code, ((1, 3), (3,), (3,), (0, 3)), ((3,), (0,), (), (0, 1, 2, 3)), (0, 1, 3))

    def test_many_blocks_are_rising(self):
        ends = [("if", "x", 12, 11)] + [("go", number) for number in range(10)] + [BACK, ("if", "x", 10, 2)]
        self.same(reached(ends_only(*ends), "main"), tuple(range(13)))
        self.same(nexts(ends_only(*ends), "main", 0), (11, 12))
        self.same(nexts(ends_only(("if", "x", 8, 1), *[BACK] * 8), "main", 0), (1, 8))
        self.same(nexts(ends_only(("if", "x", 1, 8), *[BACK] * 8), "main", 0), (1, 8))

    def test_rows_turn_nothing(self):
        ends = (("if", "x", 2, 1), ("go", 0), BACK, ("go", 3))
        for rows in ((), (("need", 0),), (("call", "sub"),), (("call", "sub"), ("tell", 3), ("call", "sub"))):
            self.told(ends_only(*ends, rows=rows), ((1, 2), (0,), (), (3,)), ((1,), (0,), (0,), (3,)), (0, 1, 2))

    def test_each_routine_for_itself(self):
        self.told(CODE, ((1, 2), (0,), ()), ((1,), (0,), (0,)), (0, 1, 2))
        self.told(CODE, ((0, 1), ()), ((0,), (0,)), (0, 1), name="sub")
        self.told(ends_only(BACK), ((0,),), ((0,),), (0,), name="sub")

    def test_befores_are_nexts_turned_round(self):
        for seed in range(60):
            code = some_code(seed)
            for name in routines_of(code):
                numbers = range(len(blocks_of(code, name)))
                for number in numbers:
                    self.same(befores(code, name, number),
                              tuple([other for other in numbers if number in nexts(code, name, other)]))
                behind = {0}
                for _ in numbers:
                    behind |= {other for number in behind for other in nexts(code, name, number)}
                self.same(reached(code, name), tuple(sorted(behind)))

    def test_by_name(self):
        self.same(nexts(code=CODE, name="sub", block=0), (0, 1))
        self.same(nexts(block=1, name="main", code=CODE), (0,))
        self.same(befores(code=CODE, name="sub", block=1), (0,))
        self.same(reached(name="sub", code=CODE), (0, 1))


if __name__ == "__main__":
    unittest.main()
