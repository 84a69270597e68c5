"""[16] to [18], [21]: which blocks DOMINATE which, the NEAREST ones, FRONTIERS."""

import random
import unittest

from storeways.codes import blocks_of
from storeways.dominance import dominates, dominators, frontier, frontier_again, nearest
from storeways.graphs import nexts, reached
from tests.samples import BACK, CODE, LEAST, Case, block, code_of, ends_only

# A branch, two ways that meet; a loop, a loop of one block in it; a ring with two ways into it.
MEET = ends_only(("if", "x", 1, 2), ("go", 3), ("go", 3), BACK)
LOOPS = ends_only(("go", 1), ("go", 2), ("if", "x", 2, 3), ("if", "x", 1, 4), BACK)
TWO_INTO = ends_only(("if", "x", 1, 2), ("go", 2), ("if", "x", 1, 3), BACK)
LOST = ends_only(("if", "x", 1, 2), ("go", 2), BACK, ("if", "x", 1, 4), ("go", 3))


def all_ways(code, name):
    """All BLOCK WAYS of a routine that have no block twice: what holds of all of them holds of all others."""
    ways = [(0,)]
    for way in ways:
        ways.extend([(*way, goal) for goal in nexts(code, name, way[-1]) if goal not in way])
    return ways


def some_ends(seed):
    """CODE of ENDS alone, made by a seed: six blocks, some of them not REACHED."""
    chance = random.Random(seed)
    ends = []
    for _ in range(6):
        one, other = chance.randrange(6), chance.randrange(6)
        ends.append(chance.choice((("go", one), ("if", "x", one, other), ("if", "x", one, other), BACK)))
    return ends_only(*ends)


def numbers(code, name="main"):
    return range(len(blocks_of(code, name)))


class TestDominates(Case):
    def told(self, code, dominators_of_all, name="main"):
        """Of each block what DOMINATES it, asked for all at once and one by one."""
        for under in numbers(code, name):
            self.same(self.untouched(dominators, code, name, under), dominators_of_all[under])
            for over in numbers(code, name):
                self.assertIs(self.untouched(dominates, code, name, over, under), over in dominators_of_all[under])

    def test_one_block(self):
        self.told(LEAST, ((0,),))
        self.told(ends_only(("go", 0)), ((0,),))
        self.told(ends_only(("go", 1), ("go", 1)), ((0,), (0, 1)))

    def test_a_row(self):
        self.told(ends_only(("go", 2), BACK, ("go", 1)), ((0,), (0, 1, 2), (0, 2)))

    def test_a_ring(self):
        self.told(ends_only(("go", 1), ("go", 2), ("go", 0)), ((0,), (0, 1), (0, 1, 2)))

    def test_two_ways_that_meet(self):
        self.told(MEET, ((0,), (0, 1), (0, 2), (0, 3)))

    def test_loops_in_one_another(self):
        self.told(LOOPS, ((0,), (0, 1), (0, 1, 2), (0, 1, 2, 3), (0, 1, 2, 3, 4)))

    def test_two_ways_into_a_ring(self):
        self.told(TWO_INTO, ((0,), (0, 1), (0, 2), (0, 2, 3)))

    def test_what_is_not_reached_is_dominated_by_all(self):
        self.told(LOST, ((0,), (0, 1), (0, 2), (0, 1, 2, 3, 4), (0, 1, 2, 3, 4)))
        self.told(ends_only(BACK, ("go", 0)), ((0,), (0, 1)))

    def test_of_another_routine(self):
        self.told(CODE, ((0,), (0, 1)), name="sub")
        self.told(CODE, ((0,), (0, 1), (0, 2)))

    def test_calls_turn_nothing(self):
        rows = (("call", "sub"), ("need", 0), ("call", "sub"))
        self.told(ends_only(("if", "x", 1, 2), ("go", 3), ("go", 3), BACK, rows=rows), ((0,), (0, 1), (0, 2), (0, 3)))

    def test_against_all_ways(self):
        for seed in range(80):
            code = some_ends(seed)
            ways = all_ways(code, "main")
            for under in numbers(code):
                to_it = [way for way in ways if way[-1] == under]
                self.same(dominators(code, "main", under),
                          tuple([over for over in numbers(code) if all([over in way for way in to_it])]))

    def test_what_follows(self):
        for seed in range(40):
            code = some_ends(seed)
            over = {under: dominators(code, "main", under) for under in numbers(code)}
            found = reached(code, "main")
            for last in numbers(code):
                for middle in over[last]:
                    for first in over[middle]:
                        self.assertIn(first, over[last])
                if last in found:
                    for one in over[last]:
                        for other in over[last]:
                            self.assertTrue(one in over[other] or other in over[one])
            for one in found:
                for other in found:
                    self.assertFalse(one != other and one in over[other] and other in over[one])

    def test_by_name(self):
        self.assertIs(dominates(code=MEET, name="main", over=0, under=3), True)
        self.assertIs(dominates(under=3, over=1, name="main", code=MEET), False)
        self.same(dominators(code=MEET, name="main", block=3), (0, 3))


class TestNearest(Case):
    def told(self, code, nearest_of_all, name="main"):
        for number in numbers(code, name):
            self.same(self.untouched(nearest, code, name, number), nearest_of_all[number])

    def test_nearest(self):
        self.told(LEAST, (None,))
        self.told(ends_only(("go", 0)), (None,))
        self.told(ends_only(("go", 2), BACK, ("go", 1)), (None, 2, 0))
        self.told(ends_only(("go", 3), BACK, ("go", 1), ("go", 2)), (None, 2, 3, 0))
        self.told(MEET, (None, 0, 0, 0))
        self.told(LOOPS, (None, 0, 1, 2, 3))
        self.told(TWO_INTO, (None, 0, 0, 2))
        self.told(CODE, (None, 0), name="sub")

    def test_none_of_what_is_not_reached(self):
        self.told(LOST, (None, 0, 0, None, None))
        self.told(ends_only(("go", 0), ("go", 0)), (None, None))

    def test_all_others_dominate_it(self):
        for seed in range(40):
            code = some_ends(seed)
            for number in reached(code, "main")[1:]:
                others = [over for over in dominators(code, "main", number) if over != number]
                near = nearest(code, "main", number)
                self.assertIn(near, others)
                self.assertTrue(all([dominates(code, "main", other, near) for other in others]))

    def test_by_name(self):
        self.same(nearest(block=4, code=LOOPS, name="main"), 3)


class TestFrontier(Case):
    def told(self, code, frontiers, name="main"):
        for number in numbers(code, name):
            self.same(self.untouched(frontier, code, name, number), frontiers[number])

    def test_frontier(self):
        self.told(LEAST, ((),))
        self.told(ends_only(("go", 0)), ((0,),))
        self.told(ends_only(("go", 1), BACK), ((), ()))
        self.told(MEET, ((), (3,), (3,), ()))
        self.told(LOOPS, ((), (1,), (1, 2), (1,), ()))
        self.told(TWO_INTO, ((), (2,), (1,), ()))
        self.told(CODE, ((0,), ()), name="sub")

    def test_a_loop_of_one_block(self):
        self.told(ends_only(("go", 1), ("if", "x", 2, 1), BACK), ((), (1,), ()))

    def test_block_0_gone_to_again(self):
        self.told(ends_only(("if", "x", 1, 2), ("go", 0), BACK), ((0,), (0,), ()))

    def test_what_is_not_reached_has_none_and_is_in_none(self):
        self.told(LOST, ((), (2,), (), (), ()))
        self.told(ends_only(BACK, ("go", 0), ("go", 1), ("if", "x", 3, 0)), ((), (), (), ()))

    def test_by_its_words(self):
        for seed in range(60):
            code = some_ends(seed)
            found = reached(code, "main")
            for one in found:
                want = set()
                for under in found:
                    for goal in nexts(code, "main", under):
                        if dominates(code, "main", one, under) and not (dominates(code, "main", one, goal) and one != goal):
                            want.add(goal)
                self.same(frontier(code, "main", one), tuple(sorted(want)))

    def test_on_a_way_to_what_is_not_dominated_one_is_behind_it(self):
        for seed in range(30):
            code = some_ends(seed)
            for way in all_ways(code, "main"):
                for at, number in enumerate(way):
                    if not dominates(code, "main", number, way[-1]):
                        self.assertTrue(any([other in frontier(code, "main", number) for other in way[at + 1:]]))

    def test_by_name(self):
        self.same(frontier(name="main", block=1, code=MEET), (3,))


class TestFrontierAgain(Case):
    def told(self, code, *cases, name="main"):
        for blocks, want in cases:
            self.same(self.untouched(frontier_again, code, name, blocks), want)

    def test_frontier_again(self):
        self.told(MEET, ((), ()), ((0,), ()), ((1,), (3,)), ((1, 2), (3,)), ((3,), ()), ((0, 1, 2, 3), (3,)))
        self.told(LOOPS, ((4,), ()), ((3,), (1,)), ((2,), (1, 2)), ((0, 1, 2, 3, 4), (1, 2)))
        self.told(CODE, ((0,), (0,)), ((1,), ()), name="sub")

    def test_again_and_again(self):
        # 4 alone has 5 in its FRONTIER, that has 6, and that goes round to 1.
        code = ends_only(("if", "x", 1, 6), ("if", "x", 2, 5), ("if", "x", 3, 4), ("go", 5), ("go", 5), ("go", 6), ("if", "x", 1, 7), BACK)
        self.told(code, ((4,), (1, 5, 6)), ((3,), (1, 5, 6)), ((6,), (1, 6)), ((0,), ()))
        self.same(frontier(code, "main", 4), (5,))

    def test_the_same_block_twice_and_in_any_order(self):
        self.told(MEET, ((1, 1), (3,)), ((2, 1, 2), (3,)), ((3, 2, 0), (3,)))
        self.told(TWO_INTO, ((2, 1), (1, 2)), ((1,), (1, 2)), ((1, 1, 1), (1, 2)))

    def test_blocks_that_are_not_reached(self):
        self.told(LOST, ((3,), ()), ((4, 3), ()), ((1, 4), (2,)))

    def test_it_is_the_least_such(self):
        for seed in range(40):
            code = some_ends(seed)
            for blocks in ((), (0,), (1,), (2, 3), tuple(numbers(code))):
                want = set()
                for _ in range(7):
                    want = {goal for one in (*blocks, *want) for goal in frontier(code, "main", one)}
                self.same(frontier_again(code, "main", blocks), tuple(sorted(want)))

    def test_what_is_told_may_be_handed_in_again(self):
        for seed in range(20):
            code = some_ends(seed)
            told = frontier_again(code, "main", reached(code, "main"))
            self.assertTrue(set(frontier_again(code, "main", told)) <= set(told))

    def test_by_name(self):
        self.same(frontier_again(blocks=(1,), name="main", code=MEET), (3,))


class TestMoreBlocks(Case):
    def test_a_long_row_of_loops(self):
        many = 40
        code = code_of(*[block(("if", "x", number, number + 1)) for number in range(many)], block(BACK))
        self.same(dominators(code, "main", many), tuple(range(many + 1)))
        self.same(nearest(code, "main", many), many - 1)
        self.same(frontier_again(code, "main", (3, 5)), (3, 5))

    def test_rising_beyond_eight(self):
        # 1 goes to itself and to 8, to which 0 goes, too.
        code = ends_only(("if", "x", 8, 1), ("if", "x", 8, 1), *[("go", 0)] * 6, BACK)
        self.same(frontier(code, "main", 1), (1, 8))
        self.same(frontier_again(code, "main", (1,)), (1, 8))


if __name__ == "__main__":
    unittest.main()
