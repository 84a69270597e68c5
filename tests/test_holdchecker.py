"""[70], [71]: HOLD TABLES looked at, whoever wrote them."""

import itertools
import random
import unittest

from storeways.codes import places_in, routines_of
from storeways.freeing import met_places
from storeways.holdchecker import lets_holds
from storeways.holding import hold_table
from tests.samples import (
    A0, BACK, CELL, CODE, LEAF, LEAST, LOAD, NEVER, STORE, STRANGE, TELL, Case, block, busy_code, code_of, exchanged,
    said, some_code,
)
from tests.tried import tried_holds


# Its PLACES are main's 0:0 to 0:3, then sub's 0:0 to 0:2.
CALLS = code_of(block(LOAD, ("call", "sub"), STORE, BACK), sub=(block(TELL, LOAD, BACK),))


def with_point(table, k, *truths):
    """The table with other truths at its entry k: met, kept, found."""
    points, begun = table
    return (exchanged(points, k, (points[k][0], *truths)), begun)


def with_begin(table, k, truth):
    """The table with another truth at its routine k."""
    points, begun = table
    return (points, exchanged(begun, k, (begun[k][0], truth)))


def table_by(code, points, begun):
    """A HOLD TABLE of truths in the order of PLACES and routines."""
    return (tuple([(place, *truths) for place, truths in zip(places_in(code), points, strict=True)]),
            tuple(zip(routines_of(code), begun, strict=True)))


class TestLetsHolds(Case):
    def lets(self, code, *tables, name="x", cell=CELL):
        for table in tables:
            self.assertIs(self.untouched(lets_holds, code, name, cell, table), True)

    def refuses(self, code, *cases, name="x", cell=CELL):
        """Each case is (thing, word, at)."""
        for thing, word, at in cases:
            self.no_paper(word, at, lets_holds, code, name, cell, thing)

    def test_what_is_told_is_let_by(self):
        codes = [LEAST, CODE, CALLS] + [some_code(seed) for seed in range(60)] + [busy_code(seed) for seed in range(120)]
        for code in codes:
            for name, cell in (("x", CELL), ("i", CELL), ("none", CELL), ("x", code[0][-1][:1] + (0,))):
                self.lets(code, hold_table(code, name, cell), name=name, cell=cell)

    def test_shape(self):
        points, begun = hold_table(CALLS, "x", CELL)
        self.refuses(CALLS, (begun, "point", 0), (((("a", True),), ()), "point", 0))
        things = [thing for thing in STRANGE if thing != ((("a", True),), ())]
        things.extend([[points, begun], (list(points), begun), (points, list(begun)), (points,), (points, begun, ()), (points, None),
                       (None, begun), (True, begun), (points, "ab"), points, 0])
        for thing in things:
            self.refuses(CALLS, (thing, "shape", -1))

    def test_point(self):
        table = hold_table(CALLS, "x", CELL)
        points, begun = table
        place, met, kept, found = points[1]
        wrong = (None, (), [], (place,), (place, met, kept), (place, met, kept, found, found), [place, met, kept, found],
                 (place, 1, kept, found), (place, met, 1, found), (place, met, kept, 0), (place, met, kept, None), (place, "", kept, found),
                 (("main", 0, True), met, kept, found), (("main", False, 1), met, kept, found), (["main", 0, 1], met, kept, found),
                 (("main", 0, 2), met, kept, found), (("main", 0, 0), met, kept, found), (None, met, kept, found), ((), met, kept, found),
                 ("main", met, kept, found), (True, met, kept, found))
        for entry in wrong:
            self.refuses(CALLS, ((exchanged(points, 1, entry), begun), "point", 1))
        first = (("main", False, 0), *points[0][1:])
        self.refuses(CALLS, ((exchanged(points, 0, first), begun), "point", 0))
        self.refuses(CALLS, ((exchanged(points, 6, None), begun), "point", 6))

    def test_point_too_many_or_too_few(self):
        points, begun = hold_table(CALLS, "x", CELL)
        self.refuses(CALLS, ((points + (points[-1],), begun), "point", 7), ((points + (None,), begun), "point", 7),
                     ((points + (None,) * 100000, begun), "point", 7), ((points[:-1], begun), "point", 6), (((), begun), "point", 0),
                     (((), ()), "point", 0), ((points[1:], begun), "point", 0), ((points[:1] + points[2:], begun), "point", 1),
                     (((points[0], *points), begun), "point", 1), ((points[::-1], begun), "point", 0))

    def test_the_first_point_of_several(self):
        points, begun = hold_table(CALLS, "x", CELL)
        self.refuses(CALLS, ((exchanged(exchanged(points, 4, None), 2, ()), begun), "point", 2),
                     ((exchanged(points, 4, None) + (None,), begun), "point", 4), ((exchanged(points, 4, None)[:6], begun), "point", 4),
                     ((points[:3], ()), "point", 3), ((points[:3], None), "shape", -1))

    def test_begin(self):
        points, begun = hold_table(CALLS, "x", CELL)
        wrong = (None, (), [], "sub", ("sub",), ("sub", 1), ("sub", 0), ("sub", None), ("sub", True, True), ["sub", True], ("main", False),
                 ("none", True), (["sub"], True), (None, True), (True, True))
        for entry in wrong:
            self.refuses(CALLS, ((points, exchanged(begun, 1, entry)), "begin", 1))
        self.refuses(CALLS, ((points, exchanged(begun, 0, ("main", 0))), "begin", 0), ((points, begun[::-1]), "begin", 0))

    def test_begin_too_many_or_too_few(self):
        points, begun = hold_table(CALLS, "x", CELL)
        self.refuses(CALLS, ((points, begun + (("zub", True),)), "begin", 2), ((points, begun + (None,)), "begin", 2),
                     ((points, begun[:1]), "begin", 1), ((points, ()), "begin", 0), ((points, begun[1:]), "begin", 0))

    def test_points_and_begins_are_looked_at_ahead_of_all_else(self):
        table = with_point(with_point(hold_table(CALLS, "x", CELL), 0, False, True, True), 3, True, True, True)
        self.refuses(CALLS, ((table[0], table[1][:1]), "begin", 1), ((table[0][:5], table[1]), "point", 5), (table, "first", ("main", 0, 0)))

    def test_first(self):
        table = hold_table(CALLS, "x", CELL)
        for truths in ((False, True, True), (False, False, False), (False, True, False), (True, True, True), (True, False, True)):
            self.refuses(CALLS, (with_point(table, 0, *truths), "first", ("main", 0, 0)))
        self.refuses(CALLS, (with_point(table, 4, True, True, True), "first", ("sub", 0, 0)),
                     (with_point(table, 4, True, False, True), "first", ("sub", 0, 0)))

    def test_first_of_one_that_is_not_met(self):
        code = code_of(block(BACK), sub=LEAF)
        table = hold_table(code, "x", CELL)
        for kept, found in itertools.product((True, False), repeat=2):
            self.lets(code, with_point(table, 1, False, kept, found))
        self.lets(code, with_point(table, 1, True, True, False), with_point(table, 1, True, False, False))
        self.refuses(code, (with_point(table, 1, True, True, True), "first", ("sub", 0, 0)))

    def test_flow_of_met(self):
        table = hold_table(CALLS, "x", CELL)
        self.refuses(CALLS, (with_point(table, 1, False, True, True), "flow", ("main", 0, 0)),
                     (with_point(table, 2, False, True, True), "flow", ("main", 0, 1)),
                     (with_point(table, 3, False, False, False), "flow", ("main", 0, 2)),
                     (with_point(table, 5, False, True, False), "flow", ("sub", 0, 0)),
                     (with_point(table, 6, False, True, True), "flow", ("sub", 0, 1)))

    def test_flow_of_truths(self):
        table = hold_table(CALLS, "x", CELL)
        # Behind the "store".
        self.refuses(CALLS, (with_point(table, 3, True, True, False), "flow", ("main", 0, 2)),
                     (with_point(table, 3, True, False, True), "flow", ("main", 0, 2)))
        # Behind "tell", as ahead.
        self.refuses(CALLS, (with_point(table, 5, True, True, True), "flow", ("sub", 0, 0)))
        # Truths may be fewer, but what hangs on them, too, then; behind a "load" of the CELL alone they come anew.
        self.lets(CALLS, with_point(table, 5, True, False, False), with_point(table, 6, True, True, True))
        self.refuses(CALLS, (with_point(table, 4, True, False, False), "flow", ("sub", 0, 0)),
                     (with_point(table, 6, True, False, True), "flow", ("main", 0, 1)),
                     (with_point(table, 6, True, False, False), "flow", ("main", 0, 1)))
        # Ahead of the "call" both are True, so that found of its "back" doesn't count.
        self.lets(CALLS, with_point(table, 6, True, True, False))

    def test_flow_of_what_gives_the_name_something(self):
        for row in (("set", "x", "+", "x", 0), ("load", "x", (("a",), 0, "i")), ("load", "x", (("a",), 0, 1)), ("store", (("a", "b"), "p", 0), 1)):
            code = code_of(block(LOAD, row, BACK))
            table = hold_table(code, "x", CELL)
            self.refuses(code, (with_point(table, 2, True, True, False), "flow", ("main", 0, 1)),
                         (with_point(table, 2, True, False, True), "flow", ("main", 0, 1)))
        for row in (("set", "y", "+", "x", 0), ("load", "y", A0), ("store", (("b",), 0, "x"), 1), ("touch", A0), ("need", "x")):
            code = code_of(block(LOAD, row, BACK))
            self.lets(code, table_by(code, ((True, True, False), (True, True, True), (True, True, True)), (False,)))

    def test_flow_along_ends(self):
        code = code_of(block(LOAD, ("if", "x", 1, 2)), block(("go", 2)), block(("if", "y", 0, 1)))
        table = hold_table(code, "x", CELL)
        self.refuses(code, (with_point(table, 2, False, True, True), "flow", ("main", 0, 1)),
                     (with_point(table, 3, False, True, True), "flow", ("main", 0, 1)),
                     (with_point(table, 1, True, False, True), "flow", ("main", 0, 1)),
                     (with_point(table, 1, True, True, False), "flow", ("main", 0, 1)),
                     (with_point(table, 2, True, True, False), "flow", ("main", 1, 0)),
                     (with_point(table, 3, True, False, True), "flow", ("main", 2, 0)))

    def test_flow_behind_a_call_by_what_its_backs_have(self):
        sub = (block(("if", "x", 1, 2)), block(BACK), block(STORE, BACK))
        code = code_of(block(LOAD, ("call", "sub"), BACK), sub=sub)
        # Of main 0:0 to 0:2, of sub 0:0, 1:0, 2:0, 2:1.
        kept, both, neither = (True, True, False), (True, True, True), (True, False, False)
        self.lets(code, table_by(code, (kept, both, neither, kept, kept, kept, neither), (False, True)))
        for truths in (kept, both, (True, False, True)):
            self.refuses(code, (table_by(code, (kept, both, truths, kept, kept, kept, neither), (False, True)), "flow", ("main", 0, 1)))

    def test_behind_a_call_of_false_found_counts(self):
        # Whoever wrote it: kept may be False and found True; of False ahead of the "call" found of its "back" counts.
        code = code_of(block(("call", "sub"), BACK), sub=(block(LOAD, BACK),))
        kept, odd, neither = (True, True, False), (True, False, True), (True, False, False)
        self.lets(code, table_by(code, (neither, (True, True, True), neither, odd), (False, False)))
        self.lets(code, table_by(code, (kept, odd, kept, odd), (False, False)))
        self.refuses(code, (table_by(code, (kept, (True, True, False), kept, odd), (False, False)), "flow", ("main", 0, 0)),
                     (table_by(code, (neither, (True, True, True), kept, kept), (False, False)), "flow", ("main", 0, 0)))

    def test_only_backs_that_have_met_count(self):
        code = code_of(block(("call", "sub"), BACK), sub=(block(LOAD, BACK), block(STORE, BACK)))
        kept, both, neither = (True, True, False), (True, True, True), (True, False, False)
        for truths in itertools.product((True, False), repeat=2):
            self.lets(code, table_by(code, (kept, both, kept, both, (False, True, True), (False, *truths)), (False, False)))
        self.refuses(code, (table_by(code, (kept, both, kept, both, (False, True, True), neither), (False, False)), "flow", ("main", 0, 0)))
        self.lets(code, table_by(code, (kept, neither, kept, both, (False, True, True), neither), (False, False)))

    def test_behind_a_call_that_never_comes_back_nothing_is_due(self):
        code = code_of(block(LOAD, ("call", "sub"), BACK), sub=(block(("call", "sub"), BACK),))
        table = hold_table(code, "x", CELL)
        for truths in itertools.product((True, False), repeat=3):
            self.lets(code, with_point(table, 2, *truths))
        self.lets(code, with_point(with_point(table, 4, True, True, False), 2, True, True, False))
        # Where its "back" has met, the PLACE behind the "call" has to have it, too.
        self.refuses(code, (with_point(table, 4, True, True, True), "flow", ("main", 0, 1)))

    def test_from_places_that_have_not_met_nothing_is_due(self):
        code = code_of(block(BACK), block(STORE, ("call", "sub"), BACK), sub=LEAF)
        for truths in itertools.product(itertools.product((True, False), repeat=2), repeat=4):
            points = ((True, True, False), *[(False, *two) for two in truths])
            for truth in (True, False):
                self.lets(code, table_by(code, points, (False, truth)))

    def test_main(self):
        for code in (LEAST, CALLS):
            table = hold_table(code, "x", CELL)
            self.refuses(code, (with_begin(table, 0, True), "main", -1))

    def test_call_of_met(self):
        code = code_of(block(LOAD, ("call", "sub"), BACK), sub=NEVER)
        table = hold_table(code, "x", CELL)
        self.refuses(code, (with_point(table, 3, False, True, True), "call", ("main", 0, 1)),
                     (with_point(table, 3, False, False, False), "call", ("main", 0, 1)))

    def test_call_of_begins(self):
        code = code_of(block(LOAD, ("call", "sub"), STORE, ("call", "sub"), BACK), sub=LEAF)
        table = hold_table(code, "x", CELL)
        self.refuses(code, (with_begin(table, 1, True), "call", ("main", 0, 3)))
        code = code_of(block(("call", "sub"), LOAD, ("call", "sub"), BACK), sub=LEAF)
        self.refuses(code, (with_begin(hold_table(code, "x", CELL), 1, True), "call", ("main", 0, 0)))

    def test_call_of_begins_by_the_begins_of_its_own(self):
        code = code_of(block(LOAD, ("call", "sub"), BACK), sub=(block(("call", "zub"), BACK),), zub=LEAF)
        table = hold_table(code, "x", CELL)
        self.same(table[1], (("main", False), ("sub", True), ("zub", True)))
        self.lets(code, with_begin(table, 2, False))
        self.refuses(code, (with_begin(table, 1, False), "call", ("sub", 0, 0)))
        self.lets(code, with_begin(with_begin(table, 1, False), 2, False))
        # kept counts where begins of its own is True, else found.
        odd = with_point(with_begin(table, 2, True), 3, True, False, False)
        odd = with_point(with_point(odd, 4, True, False, False), 2, True, False, False)
        self.refuses(code, (odd, "call", ("sub", 0, 0)))

    def test_the_first_of_several(self):
        table = hold_table(CALLS, "x", CELL)
        worse = with_begin(with_point(table, 3, True, True, True), 0, True)
        self.refuses(CALLS, (worse, "flow", ("main", 0, 2)), (with_point(worse, 4, True, True, True), "flow", ("main", 0, 2)),
                     (with_point(worse, 0, True, True, True), "first", ("main", 0, 0)),
                     (with_point(with_point(table, 4, True, True, True), 5, False, True, True), "first", ("sub", 0, 0)),
                     (with_point(with_point(table, 0, True, False, True), 1, False, True, True), "first", ("main", 0, 0)),
                     (with_point(with_point(table, 4, True, True, True), 1, False, True, True), "flow", ("main", 0, 0)))
        code = code_of(block(("call", "sub"), ("call", "sub"), BACK), sub=LEAF)
        table = hold_table(code, "x", CELL)
        self.refuses(code, (with_begin(table, 1, True), "call", ("main", 0, 0)),
                     (with_begin(with_begin(table, 1, True), 0, True), "main", -1))

    def test_one_met_fewer_or_one_truth_more(self):
        for seed in range(60):
            code = busy_code(seed)
            table = hold_table(code, "x", CELL)
            for k, (place, met, kept, found) in enumerate(table[0]):
                if met:
                    self.assertIsNot(said(lets_holds, code, "x", CELL, with_point(table, k, False, kept, found)), True)
                if not kept:
                    self.assertIsNot(said(lets_holds, code, "x", CELL, with_point(table, k, met, True, found)), True)
                if not found:
                    self.assertIsNot(said(lets_holds, code, "x", CELL, with_point(table, k, met, kept, True)), True)
            for k, (routine, truth) in enumerate(table[1]):
                if not truth:
                    self.assertIsNot(said(lets_holds, code, "x", CELL, with_begin(table, k, True)), True)

    def test_of_all_that_are_let_by_the_told_one_has_the_fewest_met_and_the_most_truths(self):
        codes = (code_of(block(("go", 0))), code_of(block(LOAD, ("go", 0))), code_of(block(("if", "x", 0, 1)), block(BACK)),
                 code_of(block(("call", "sub"), BACK), sub=LEAF), code_of(block(BACK), sub=NEVER), code_of(block(STORE, ("go", 0))),
                 code_of(block(("call", "sub"), ("go", 0)), sub=NEVER))
        for code in codes:
            places, routines = places_in(code), routines_of(code)
            told = hold_table(code, "x", CELL)
            best = (sum([not point[1] for point in told[0]]), sum([sum(point[2:]) for point in told[0]]) + sum([truth for _, truth in told[1]]))
            for truths in itertools.product((True, False), repeat=3 * len(places) + len(routines)):
                points = [truths[3 * k:3 * k + 3] for k in range(len(places))]
                table = table_by(code, points, truths[3 * len(places):])
                if said(lets_holds, code, "x", CELL, table) is True:
                    others = sum([sum(point[1:]) for point in points]) + sum(truths[3 * len(places):])
                    rank = (sum([not point[0] for point in points]), others)
                    self.assertTrue(rank < best or table == told)

    def test_what_is_let_by_is_so(self):
        chance = random.Random(7)
        let = 0
        for seed in range(150):
            code = busy_code(seed, 3)
            holds = tried_holds(code, "x", CELL)
            told = hold_table(code, "x", CELL)
            for _ in range(20):
                points = [(place, met or chance.random() < 0.1, kept and chance.random() < 0.9, found and chance.random() < 0.9)
                          for place, met, kept, found in told[0]]
                table = (tuple(points), tuple([(routine, truth and chance.random() < 0.8) for routine, truth in told[1]]))
                if said(lets_holds, code, "x", CELL, table) is True:
                    let += 1
                    truths = dict(table[1])
                    for place, met, kept, found in points:
                        if place in holds:
                            self.assertTrue(met)
                            self.assertTrue(holds[place] or not (kept if truths[place[0]] else found))
        self.assertGreater(let, 100)

    def test_met_ones_are_met(self):
        for seed in range(30):
            code = busy_code(seed)
            self.same(tuple([point[0] for point in hold_table(code, "x", CELL)[0] if point[1]]), met_places(code))

    def test_by_name(self):
        self.assertIs(lets_holds(thing=hold_table(CALLS, "x", CELL), cell=CELL, name="x", code=CALLS), True)


if __name__ == "__main__":
    unittest.main()
