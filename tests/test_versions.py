"""[54] to [57]: VERSIONS of memory."""

import unittest

from storeways.codes import blocks_of, places_in, routines_of, row_at
from storeways.dominance import frontier_again
from storeways.errors import NoPlace
from storeways.graphs import nexts, reached
from storeways.versions import merged_blocks, parts_of, version_at, versions_of
from tests.samples import (
    BACK, CALL, CODE, LEAF, LEAST, STORE, STRANGE, TELL, Case, block, busy_code, code_of, some_code,
)

BEGIN = ("begin",)

# Two ways that meet, one of them with a "store".
MEET = code_of(block(("if", "x", 1, 2)), block(TELL, STORE, ("go", 3)), block(TELL, ("go", 3)), block(TELL, BACK), sub=LEAF)
# A loop with a "call" in it, behind a "store".
LOOP = code_of(block(STORE, ("go", 1)), block(("if", "x", 2, 3)), block(CALL, ("go", 1)), block(BACK), sub=LEAF)
# Block 0 is gone to again.
ROUND = code_of(block(("if", "x", 1, 2)), block(STORE, ("go", 0)), block(BACK), sub=LEAF)
# Two "store" ROWS in one block that goes to itself.
TWICE = code_of(block(("go", 1)), block(STORE, TELL, STORE, ("if", "x", 1, 2)), block(BACK), sub=LEAF)
# Blocks 2 and 3 aren't REACHED, and go to one that is.
LOST = code_of(block(STORE, ("go", 1)), block(BACK), block(STORE, ("if", "x", 1, 3)), block(CALL, ("go", 2)), sub=LEAF)


def stored(number, row, name="main"):
    return ("store", (name, number, row))


def called(number, row, name="main"):
    return ("call", (name, number, row))


def merged(number):
    return ("merge", number)


MAIN_STORE = stored(0, 1)


class TestVersions(Case):
    def told(self, code, merged_ones, versions, name="main"):
        self.same(self.untouched(merged_blocks, code, name), merged_ones)
        self.same(self.untouched(versions_of, code, name), versions)

    def test_blocks_with_neither(self):
        self.told(LEAST, (), (BEGIN,))
        rows = (TELL, ("load", "x", (("a",), 0, "i")), ("touch", (("a",), 0, 0)), ("set", "x", "+", 1, 1), ("need", 0))
        self.told(code_of(block(*rows, ("if", "x", 0, 1)), block(*rows, ("go", 0))), (), (BEGIN,))

    def test_one_block(self):
        self.told(code_of(block(STORE, TELL, CALL, STORE, BACK), sub=LEAF), (), (BEGIN, called(0, 2), stored(0, 0), stored(0, 3)))

    def test_behind_a_branch(self):
        self.told(MEET, (3,), (BEGIN, merged(3), stored(1, 1)))
        code = code_of(block(("if", "x", 1, 2)), block(CALL, ("go", 3)), block(("go", 3)), block(BACK), sub=LEAF)
        self.told(code, (3,), (BEGIN, called(1, 0), merged(3)))

    def test_at_a_loop(self):
        self.told(LOOP, (1,), (BEGIN, called(2, 0), merged(1), stored(0, 0)))
        self.told(TWICE, (1,), (BEGIN, merged(1), stored(1, 0), stored(1, 2)))

    def test_block_0_gone_to_again(self):
        self.told(ROUND, (0,), (BEGIN, merged(0), stored(1, 0)))
        self.told(code_of(block(STORE, ("go", 0))), (0,), (BEGIN, merged(0), stored(0, 0)))
        self.told(code_of(block(("go", 0))), (), (BEGIN,))

    def test_blocks_that_are_not_reached(self):
        self.told(LOST, (), (BEGIN, stored(0, 0)))

    def test_a_merged_one_makes_others(self):
        # The "store" alone has 3 in its FRONTIER, and that has 5.
        ends = (("if", "x", 1, 4), ("if", "x", 2, 3), ("go", 3), ("go", 5), ("go", 5), BACK)
        code = code_of(*[block(STORE, end) if number == 2 else block(end) for number, end in enumerate(ends)])
        self.told(code, (3, 5), (BEGIN, merged(3), merged(5), stored(2, 0)))

    def test_each_routine_for_itself(self):
        self.told(CODE, (0,), (BEGIN, called(0, 0, "sub"), merged(0), stored(0, 1, "sub")), name="sub")
        self.told(CODE, (0,), (BEGIN, called(1, 0), merged(0), stored(0, 1)))

    def test_rising_beyond_ten(self):
        rows = [STORE, CALL] * 6
        code = code_of(*[block(*rows, ("if", "x", number, number + 1)) for number in range(11)], block(BACK), sub=LEAF)
        self.same(merged_blocks(code, "main"), tuple(range(11)))
        told = versions_of(code, "main")
        self.same(told, tuple(sorted(told)))
        self.assertEqual(len(set(told)), 1 + 11 + 11 * 12)

    def test_by_their_words(self):
        for seed in range(60):
            code = busy_code(seed)
            for name in routines_of(code):
                found = reached(code, name)
                changers = [number for number in found if {row[0] for row in blocks_of(code, name)[number][0]} & {"store", "call"}]
                self.same(merged_blocks(code, name), frontier_again(code, name, tuple(changers)))

    def test_by_name(self):
        self.same(merged_blocks(name="main", code=MEET), (3,))
        self.same(versions_of(name="main", code=MEET), (BEGIN, merged(3), stored(1, 1)))


class TestVersionAt(Case):
    def told(self, code, *versions, name="main"):
        """The VERSIONS that are NOW at the PLACES of the routine, rising."""
        places = [place for place in places_in(code) if place[0] == name and place[1] in reached(code, name)]
        for place, want in zip(places, versions, strict=True):
            with self.subTest(place=place):
                self.same(self.untouched(version_at, code, place), want)

    def test_rows(self):
        self.told(LEAST, BEGIN)
        self.told(code_of(block(TELL, STORE, TELL, CALL, STORE, BACK), sub=LEAF), BEGIN, BEGIN, stored(0, 1), stored(0, 1), called(0, 3), stored(0, 4))

    def test_two_ways_that_meet(self):
        self.told(MEET, BEGIN, BEGIN, BEGIN, stored(1, 1), BEGIN, BEGIN, merged(3), merged(3))

    def test_at_a_loop(self):
        self.told(LOOP, BEGIN, stored(0, 0), merged(1), merged(1), called(2, 0), merged(1))
        self.told(TWICE, BEGIN, merged(1), stored(1, 0), stored(1, 0), stored(1, 2), stored(1, 2))

    def test_block_0_gone_to_again(self):
        self.told(ROUND, merged(0), merged(0), stored(1, 0), merged(0))

    def test_a_block_behind_one_that_has_a_store(self):
        code = code_of(block(STORE, ("if", "x", 1, 2)), block(TELL, ("go", 3)), block(("go", 3)), block(BACK))
        self.told(code, BEGIN, stored(0, 0), stored(0, 0), stored(0, 0), stored(0, 0), stored(0, 0))
        # The one that comes out of the NEAREST block of the NEAREST block.
        code = code_of(block(CALL, STORE, ("go", 1)), block(("go", 2)), block(BACK), sub=LEAF)
        self.told(code, BEGIN, called(0, 0), stored(0, 1), stored(0, 1), stored(0, 1))

    def test_of_another_routine(self):
        self.told(CODE, merged(0), called(0, 0, "sub"), stored(0, 1, "sub"), stored(0, 1, "sub"), stored(0, 1, "sub"), name="sub")

    def test_refused(self):
        lost = [("main", 2, 0), ("main", 2, 1), ("main", 3, 0), ("main", 3, 1)]
        wrong = [("main", 0, 2), ("main", 0, True), ("main", False, 0), ("main", 4, 0), ("main", -1, 0), ("none", 0, 0),
                 ["main", 0, 0], ("main", 0), ("main", [0], 0), "main", 0, BEGIN, stored(0, 0)]
        for thing in (*STRANGE, *lost, *wrong):
            self.refused(NoPlace, {"place": thing}, version_at, LOST, thing)
            self.refused(NoPlace, {"place": thing}, version_at, place=thing, code=LOST)

    def test_by_name(self):
        self.same(version_at(place=("main", 3, 0), code=MEET), merged(3))


class TestParts(Case):
    def told(self, code, *cases, name="main"):
        """Each case is (VERSION, its PARTS); they are all that there are."""
        self.same(versions_of(code, name), tuple([version for version, parts in cases]))
        for version, parts in cases:
            with self.subTest(version=version):
                self.same(self.untouched(parts_of, code, name, version), parts)

    def test_of_each_sort(self):
        self.told(LEAST, (BEGIN, ()))
        self.told(MEET, (BEGIN, ()), (merged(3), (BEGIN, stored(1, 1))), (stored(1, 1), (BEGIN,)))
        self.told(LOOP, (BEGIN, ()), (called(2, 0), (merged(1),)), (merged(1), (called(2, 0), stored(0, 0))), (stored(0, 0), (BEGIN,)))
        self.told(TWICE, (BEGIN, ()), (merged(1), (BEGIN, stored(1, 2))), (stored(1, 0), (merged(1),)), (stored(1, 2), (stored(1, 0),)))

    def test_merged_block_0_has_begin(self):
        self.told(ROUND, (BEGIN, ()), (merged(0), (BEGIN, stored(1, 0))), (stored(1, 0), (merged(0),)))

    def test_a_merge_among_its_own_parts(self):
        code = code_of(block(("go", 1)), block(("if", "x", 1, 2)), block(STORE, ("if", "x", 1, 3)), block(BACK))
        self.told(code, (BEGIN, ()), (merged(1), (BEGIN, merged(1), stored(2, 0))), (stored(2, 0), (merged(1),)))

    def test_one_part_from_two_blocks(self):
        code = code_of(block(("if", "x", 1, 2)), block(STORE, ("if", "x", 3, 4)), block(("go", 4)), block(("go", 4)), block(BACK))
        self.told(code, (BEGIN, ()), (merged(4), (BEGIN, stored(1, 0))), (stored(1, 0), (BEGIN,)))

    def test_nothing_comes_from_blocks_that_are_not_reached(self):
        code = code_of(block(("if", "x", 1, 2)), block(STORE, ("go", 2)), block(BACK), block(STORE, ("go", 2)))
        self.told(code, (BEGIN, ()), (merged(2), (BEGIN, stored(1, 0))), (stored(1, 0), (BEGIN,)))
        self.told(LOST, (BEGIN, ()), (stored(0, 0), (BEGIN,)))

    def test_of_another_routine(self):
        self.told(CODE, (BEGIN, ()), (called(0, 0, "sub"), (merged(0),)), (merged(0), (BEGIN, stored(0, 1, "sub"))),
                  (stored(0, 1, "sub"), (called(0, 0, "sub"),)), name="sub")

    def test_refused(self):
        wrong = (stored(2, 0), called(3, 0), merged(1), merged(2), merged(True), merged(None), merged((0,)), merged(-1), ("merge",),
                 called(0, 0), stored(0, 1), stored(0, 2), stored(0, False), stored(False, 0), stored(0, 0, "sub"), stored(0, 0, "none"),
                 ["store", ("main", 0, 0)], ("store", ["main", 0, 0]), ("store", "main:0:0"), ("store", ("main", 0, 0), 0), ("store",),
                 ("load", ("main", 0, 0)), (["store"], ("main", 0, 0)), ["begin"], "begin", ("begin", 0), ("begin", None), (BEGIN,),
                 ("main", 0, 0), 0)
        for thing in (*STRANGE, *wrong):
            self.refused(NoPlace, {"place": thing}, parts_of, LOST, "main", thing)
            self.refused(NoPlace, {"place": thing}, parts_of, version=thing, name="main", code=LOST)

    def test_refused_where_the_routine_has_not_it(self):
        for thing in (merged(True), merged(0), merged(3), stored(0, 0, "sub"), called(1, 0, "sub"), ("store", ("main", True, 0)), ("store", ("main", 1, False))):
            self.refused(NoPlace, {"place": thing}, parts_of, TWICE, "main", thing)
        for thing in (stored(1, 0), merged(1)):
            self.refused(NoPlace, {"place": thing}, parts_of, TWICE, "sub", thing)
        for thing in (("load", ("main", 0, 0)), ("if", ("main", 0, 4)), ("back", ("main", 2, 0)), ("tell", ("main", 1, 1)), stored(0, 1, "sub"), called(0, 0, "sub")):
            self.refused(NoPlace, {"place": thing}, parts_of, CODE, "main", thing)
        self.refused(NoPlace, {"place": MAIN_STORE}, parts_of, CODE, "sub", MAIN_STORE)
        self.same(parts_of(CODE, "main", MAIN_STORE), (merged(0),))
        self.same(parts_of(TWICE, "sub", BEGIN), ())
        self.same(parts_of(ROUND, "main", merged(0)), (BEGIN, stored(1, 0)))
        thing = merged(False)
        self.refused(NoPlace, {"place": thing}, parts_of, ROUND, "main", thing)

    def test_by_name(self):
        self.same(parts_of(version=merged(3), name="main", code=MEET), (BEGIN, stored(1, 1)))


def block_ways(code, name, longest):
    """All BLOCK WAYS of a routine of at most so many blocks."""
    ways = [(0,)]
    for way in ways:
        if len(way) < longest:
            ways.extend([(*way, goal) for goal in nexts(code, name, way[-1])])
    return ways


class TestAlongWays(Case):
    def along(self, code, name, way):
        """[57], ROW by ROW, along a BLOCK WAY."""
        merged_ones = merged_blocks(code, name)
        now = BEGIN
        for number in way:
            rows, end = blocks_of(code, name)[number]
            if number in merged_ones:
                self.assertIn(now, parts_of(code, name, merged(number)))
                now = merged(number)
            for at, row in enumerate((*rows, end)):
                self.same(version_at(code, (name, number, at)), now)
                if row[0] in ("store", "call"):
                    self.same(parts_of(code, name, (row[0], (name, number, at))), (now,))
                    now = (row[0], (name, number, at))

    def test_along_ways(self):
        for code in (LEAST, MEET, LOOP, ROUND, TWICE, LOST, CODE):
            for way in block_ways(code, "main", 6):
                self.along(code, "main", way)

    def test_along_ways_of_made_code(self):
        for code in [busy_code(seed, 6) for seed in range(25)] + [some_code(seed) for seed in range(25)]:
            for name in routines_of(code):
                for way in block_ways(code, name, 5):
                    self.along(code, name, way)

    def test_other_rows_exchanged_turn_nothing(self):
        for seed in range(20):
            code = busy_code(seed)
            for other in (("touch", (("a",), 0, "i")), ("set", "x", "+", 1, 1), ("need", 0)):
                turned = (code[0], tuple([(name, tuple([
                    (tuple([other if row[0] in ("tell", "set", "touch", "need") else row for row in rows]), end)
                    for rows, end in blocks])) for name, blocks in code[1]]))
                for name in routines_of(code):
                    self.same(versions_of(turned, name), versions_of(code, name))
                    for version in versions_of(code, name):
                        self.same(parts_of(turned, name, version), parts_of(code, name, version))

    def test_what_is_told_may_be_handed_in_again(self):
        for seed in range(20):
            code = busy_code(seed)
            for name in routines_of(code):
                versions = versions_of(code, name)
                for version in versions:
                    for part in parts_of(code, name, version):
                        self.assertIn(part, versions)
                        parts_of(code, name, part)
                    if version[0] in ("store", "call"):
                        self.same(row_at(code, version[1])[0], version[0])
                        version_at(code, version[1])


if __name__ == "__main__":
    unittest.main()
