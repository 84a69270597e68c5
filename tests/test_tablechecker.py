"""[47] to [49], [51]: TABLES looked at, whoever wrote them."""

import itertools
import random
import unittest

from storeways.codes import backs_of, places_in, row_at
from storeways.faces import cells_in, face
from storeways.graphs import onwards
from storeways.tablechecker import lets_table
from storeways.tables import table_of
from tests.samples import (
    A0, A1, BACK, CALL, CELL, CODE, LEAF, LEAST, LOAD, M, NEVER, PERHAPS, STORE, STRANGE, TELL, Case, block,
    busy_code, code_of, exchanged, fullest, said, some_code,
)

S = [("sub", 0, k) for k in range(3)]

# Its PLACES are main's 0:0 to 0:3, then sub's 0:0 and 0:1.
CALLS = code_of(block(STORE, CALL, LOAD, BACK), sub=(block(PERHAPS, BACK),))
LEAST_OF_CALLS = (((M[0], (), True), (M[1], (M[0],), False), (M[2], (M[0], S[0]), False), (M[3], (M[0], S[0]), False),
                   (S[0], (), True), (S[1], (S[0],), True)), (("main", (None,)), ("sub", (M[0],))))


def with_point(table, k, made, passes):
    """The table with another made and passes at its entry k."""
    points, begun = table
    return (exchanged(points, k, (points[k][0], made, passes)), begun)


def with_begin(table, k, told):
    """The table with other sources of its routine k."""
    points, begun = table
    return (points, exchanged(begun, k, (begun[k][0], told)))


def comes(code, cell, points, place):
    """What comes behind a PLACE by the steps of [42]: a set of sources, "passes" among them where it PASSES."""
    row = row_at(code, place)
    ahead = points[place]
    if row[0] == "call":
        found = set().union(*[points[back] for back in backs_of(code, row[1])])
        return (found - {"passes"}) | (ahead if "passes" in found else set())
    if row[0] == "store" and cell in face(code, row[1]):
        return {place} | (ahead if len(face(code, row[1])) > 1 else set())
    return ahead


def refusal(code, cell, table):
    """What is due of a table that is by kind as told: True, or a word and a number or a PLACE, by the words of [48]."""
    points = {place: set(made) | ({"passes"} if passes else set()) for place, made, passes in table[0]}
    begun = {name: set(told) for name, told in table[1]}
    for place in points:
        if place[1] == place[2] == 0 and "passes" not in points[place]:
            return ("first", place)
        if points[place] and not all([comes(code, cell, points, place) <= points[goal] for goal in onwards(code, place)]):
            return ("flow", place)
    if None not in begun["main"]:
        return ("main", -1)
    for place in points:
        if row_at(code, place)[0] == "call" and points[place] and begun[place[0]]:
            due = points[place] - {"passes"} | (begun[place[0]] if "passes" in points[place] else set())
            if not due <= begun[row_at(code, place)[1]]:
                return ("call", place)
    return True


class TestLetsTable(Case):
    def lets(self, code, *tables, cell=CELL):
        for table in tables:
            with self.subTest(table=table):
                self.assertIs(self.untouched(lets_table, code, cell, table), True)

    def refuses(self, code, *cases, cell=CELL):
        """Each case is (thing, word, at)."""
        for thing, word, at in cases:
            self.no_paper(word, at, lets_table, code, cell, thing)

    def test_what_is_told_is_let_by(self):
        for code in [LEAST, CODE, CALLS] + [some_code(seed) for seed in range(60)] + [busy_code(seed) for seed in range(120)]:
            for cell in cells_in(code):
                self.lets(code, table_of(code, cell), cell=cell)

    def test_the_sample(self):
        self.same(table_of(CALLS, CELL), LEAST_OF_CALLS)

    def test_of_another_cell(self):
        table = table_of(CALLS, ("a", 1))
        self.lets(CALLS, table, cell=("a", 2))
        self.refuses(CALLS, (table, "flow", M[0]))
        self.refuses(CALLS, (LEAST_OF_CALLS, "flow", M[0]), cell=("b", 0))

    def test_shape(self):
        points, begun = LEAST_OF_CALLS
        self.refuses(CALLS, (begun, "point", 0), (((("a", True),), ()), "point", 0))
        things = [thing for thing in STRANGE if thing != ((("a", True),), ())]
        things.extend([[points, begun], (list(points), begun), (points, list(begun)), (points,), (points, begun, ()), (points, None),
                       (None, begun), (True, begun), (points, "ab"), points, 0])
        for thing in things:
            self.refuses(CALLS, (thing, "shape", -1))

    def test_point(self):
        points, begun = LEAST_OF_CALLS
        place, made, passes = points[2]
        odd = (None, (), [], (place,), (place, made), (place, made, passes, passes), [place, made, passes], place,
               (place, made, 0), (place, made, 1), (place, made, None), (place, made, ""), (place, made, (False,)),
               (M[1], made, passes), (M[3], made, passes), (S[0], made, passes), (("main", False, 2), made, passes),
               (["main", 0, 2], made, passes), (None, made, passes), ("main", made, passes), (("main", 0), made, passes))
        for entry in odd:
            self.refuses(CALLS, ((exchanged(points, 2, entry), begun), "point", 2))
        self.refuses(CALLS, ((exchanged(points, 1, (("main", 0, True), (M[0],), False)), begun), "point", 1),
                     ((exchanged(points, 0, (("main", False, 0), (), True)), begun), "point", 0))

    def test_made_of_a_point(self):
        points, begun = LEAST_OF_CALLS
        for made in (list((M[0], S[0])), None, True, 0, "", M[0], (M[0], None), (None, M[0]), (S[0], M[0]), (M[0], M[0], S[0]), (M[0], S[0], S[0]),
                     (("main", 0, False), S[0]), (("main", False, 0), S[0]), (M[0], ("main", 0, True), S[0]), (M[0], M[4], S[0]), (M[0], ("none", 0, 0), S[0]),
                     (M[0], S[0], S[2]), (M[0], ("main", 1, 0), S[0]), (("main", 0, -1), M[0], S[0]), (list(M[0]), S[0]), ("main", S[0]), (1, 2), ((), ())):
            self.refuses(CALLS, (with_point(LEAST_OF_CALLS, 2, made, False), "point", 2), (with_point(LEAST_OF_CALLS, 2, made, True), "point", 2))

    def test_places_of_whatever_rows_or_ends(self):
        places = places_in(CALLS)
        for many in range(len(places)):
            for more in itertools.combinations(places, many):
                made = tuple(sorted({M[0], S[0], *more}))
                self.lets(CALLS, with_point(LEAST_OF_CALLS, 3, made, False), with_point(LEAST_OF_CALLS, 3, made, True),
                          with_begin(LEAST_OF_CALLS, 1, made), with_begin(LEAST_OF_CALLS, 1, (None, *made)))

    def test_point_too_many_or_too_few(self):
        points, begun = LEAST_OF_CALLS
        self.refuses(CALLS, ((points + (points[-1],), begun), "point", 6), ((points + (None,), begun), "point", 6),
                     ((points + (None,) * 100000, begun), "point", 6), ((points[:-1], begun), "point", 5), (((), begun), "point", 0),
                     (((), ()), "point", 0), ((points[1:], begun), "point", 0), ((points[:1] + points[2:], begun), "point", 1),
                     (((points[0], *points), begun), "point", 1), ((points[::-1], begun), "point", 0))

    def test_the_first_point_of_several(self):
        points, begun = LEAST_OF_CALLS
        self.refuses(CALLS, ((exchanged(exchanged(points, 4, None), 2, ()), begun), "point", 2),
                     ((exchanged(points, 4, None) + (None,), begun), "point", 4), ((exchanged(points, 4, None)[:5], begun), "point", 4),
                     ((points[:3], ()), "point", 3), ((points[:3], None), "shape", -1))

    def test_begin(self):
        points, begun = LEAST_OF_CALLS
        odd = (None, (), [], "sub", ("sub",), ("sub", M[0], M[0]), ["sub", (M[0],)], ("main", (M[0],)), ("none", (M[0],)), (["sub"], (M[0],)),
               (None, (M[0],)), (True, (M[0],)))
        for entry in odd:
            self.refuses(CALLS, ((points, exchanged(begun, 1, entry)), "begin", 1))
        self.refuses(CALLS, ((points, begun[::-1]), "begin", 0), ((points, exchanged(begun, 0, ("main", [None]))), "begin", 0))

    def test_sources_of_a_begin(self):
        for told in ([M[0]], None, True, 0, "", M[0], (M[0], None), (M[0], None, M[1]), (None, None, M[0]), (M[1], M[0]), (M[0], M[0]), (None, M[0], M[0]),
                     (("main", 0, False),), (None, ("main", False, 0)), (M[0], ("main", 0, True)), (False, M[0]), (0, M[0]), ((), M[0]), (M[0], M[4]),
                     (M[0], ("none", 0, 0)), (M[0], S[2]), (None, None), (list(M[0]),), ("",)):
            self.refuses(CALLS, (with_begin(LEAST_OF_CALLS, 1, told), "begin", 1))

    def test_begin_too_many_or_too_few(self):
        points, begun = LEAST_OF_CALLS
        self.refuses(CALLS, ((points, begun + (("zub", ()),)), "begin", 2), ((points, begun + (None,)), "begin", 2),
                     ((points, begun[:1]), "begin", 1), ((points, ()), "begin", 0), ((points, begun[1:]), "begin", 0))

    def test_points_and_begins_are_looked_at_ahead_of_all_else(self):
        table = with_point(with_point(LEAST_OF_CALLS, 0, (), False), 3, (), False)
        self.refuses(CALLS, ((table[0], table[1][:1]), "begin", 1), ((table[0][:5], table[1]), "point", 5), (table, "first", M[0]),
                     (with_begin(table, 0, (M[0], None)), "begin", 0))

    def test_first(self):
        self.refuses(CALLS, (with_point(LEAST_OF_CALLS, 0, (), False), "first", M[0]), (with_point(LEAST_OF_CALLS, 0, (M[0],), False), "first", M[0]),
                     (with_point(LEAST_OF_CALLS, 4, (), False), "first", S[0]), (with_point(LEAST_OF_CALLS, 4, (S[0],), False), "first", S[0]))
        # Also of a routine that nobody calls.
        code = code_of(block(BACK), sub=LEAF)
        self.refuses(code, (with_point(table_of(code, CELL), 1, (), False), "first", S[0]))
        # A block's first PLACE is no routine's.
        code = code_of(block(BACK), block(BACK))
        self.lets(code, with_point(table_of(code, CELL), 1, (), False), with_point(table_of(code, CELL), 1, (M[0],), False))

    def flows(self, code, k, place, least, cell=CELL):
        """At entry k just what has this at least, (made, passes), is let by; else what STANDS at the place isn't held."""
        table = table_of(code, cell)
        places = places_in(code)
        made, passes = least
        self.lets(code, with_point(table, k, made, passes), with_point(table, k, places, True), cell=cell)
        for many in range(len(places) + 1):
            for other in itertools.combinations(places, many):
                for truth in (True, False):
                    if set(made) <= set(other) and truth >= passes:
                        self.lets(code, with_point(table, k, other, truth), cell=cell)
                    else:
                        self.refuses(code, (with_point(table, k, other, truth), "flow", place), cell=cell)

    def test_flow_behind_a_store_that_is_sure(self):
        self.flows(code_of(block(STORE, BACK)), 1, M[0], ((M[0],), False))
        self.flows(code_of(block(PERHAPS, STORE, BACK)), 2, M[1], ((M[1],), False))
        # Of a single object of size 1 it is SURE by NAMES, too.
        self.flows(code_of(block(("store", (("c",), "p", "i"), 1), BACK)), 1, M[0], ((M[0],), False), ("c", 0))

    def test_flow_behind_a_store_that_is_not_sure(self):
        self.flows(code_of(block(PERHAPS, BACK)), 1, M[0], ((M[0],), True))
        self.flows(code_of(block(STORE, PERHAPS, BACK)), 2, M[1], ((M[0], M[1]), False))
        self.flows(code_of(block(STORE, ("store", (("b", "a"), "p", 0), 1), BACK)), 2, M[1], ((M[0], M[1]), False))

    def test_flow_behind_other_rows(self):
        for row in (("store", A1, 1), ("store", (("a", "b"), 1, "i"), 1), LOAD, TELL, ("touch", A0), ("set", "x", "+", 1, 1), ("need", 0)):
            self.flows(code_of(block(row, BACK)), 1, M[0], ((), True))
            self.flows(code_of(block(STORE, row, BACK)), 2, M[1], ((M[0],), False))
            self.flows(code_of(block(PERHAPS, row, BACK)), 2, M[1], ((M[0],), True))

    def test_flow_behind_a_call(self):
        for ahead, made, passes in ((TELL, (), True), (STORE, M[:1], False), (PERHAPS, M[:1], True)):
            self.flows(code_of(block(ahead, CALL, BACK), sub=LEAF), 2, M[1], (tuple(made), passes))
            self.flows(code_of(block(ahead, CALL, BACK), sub=(block(STORE, BACK),)), 2, M[1], ((S[0],), False))
            self.flows(code_of(block(ahead, CALL, BACK), sub=(block(PERHAPS, BACK),)), 2, M[1], ((*made, S[0]), passes))

    def test_flow_behind_a_call_of_several_backs(self):
        sub = (block(("if", "x", 1, 2)), block(STORE, BACK), block(BACK))
        self.flows(code_of(block(CALL, BACK), sub=sub), 1, M[0], ((("sub", 1, 0),), True))

    def test_summaries_are_taken_of_the_points_themselves(self):
        code = code_of(block(CALL, BACK), sub=LEAF)
        table = with_point(table_of(code, CELL), 2, (M[1], S[0]), True)
        self.refuses(code, (table, "flow", M[0]), (with_point(table, 1, (M[1],), True), "flow", M[0]), (with_point(table, 1, (M[1], S[0]), False), "flow", M[0]))
        self.lets(code, with_point(table, 1, (M[1], S[0]), True))

    def test_flow_behind_a_call_that_never_comes_back(self):
        code = code_of(block(STORE, CALL, LOAD, BACK), sub=NEVER)
        table = table_of(code, CELL)
        self.same(table[0][2:4], ((M[2], (), False), (M[3], (), False)))
        for made, passes in (((), False), ((), True), (M[:1], False), (M[1:3], True)):
            self.lets(code, with_point(with_point(table, 3, tuple(M[:3]), True), 2, tuple(made), passes))

    def test_flow_along_ends(self):
        for end, goals in ((("go", 1), (1,)), (("if", "x", 2, 1), (1, 2)), (("if", 0, 1, 1), (1,))):
            code = code_of(block(STORE, end), block(BACK), block(BACK))
            for goal in (1, 2):
                if goal in goals:
                    self.flows(code, goal + 1, M[1], ((M[0],), False))
                else:
                    self.lets(code, with_point(table_of(code, CELL), goal + 1, (), False))

    def test_flow_round_a_loop(self):
        code = code_of(block(PERHAPS, ("if", "x", 0, 1)), block(BACK))
        table = table_of(code, CELL)
        self.lets(code, table)
        self.refuses(code, (with_point(table, 0, (), True), "flow", M[1]))

    def test_nothing_comes_from_where_nothing_stands(self):
        code = code_of(block(BACK), block(STORE, CALL, ("go", 2)), block(LOAD, BACK), sub=LEAF)
        table = table_of(code, CELL)
        self.same(table[0][1:6], tuple([(place, (), False) for place in places_in(code)[1:6]]))
        self.lets(code, table, with_point(table, 5, (M[0],), True), with_begin(table, 1, ()))
        # Where something STANDS it has to be held, though nothing comes there.
        self.refuses(code, (with_point(table, 1, (M[0],), False), "flow", ("main", 1, 0)), (with_point(table, 1, (), True), "flow", ("main", 1, 0)))
        self.refuses(code, (with_point(with_point(table, 2, (M[0],), False), 3, (M[0],), False), "flow", ("main", 1, 2)))

    def test_main(self):
        for told in ((), (M[0],), (M[1], M[3], S[0])):
            self.refuses(CALLS, (with_begin(LEAST_OF_CALLS, 0, told), "main", -1))
        for told in ((None, M[0]), (None, *places_in(CALLS))):
            self.lets(CALLS, with_begin(LEAST_OF_CALLS, 0, told))

    def test_call(self):
        for told in ((), (None,), (M[1],), (None, M[1], S[0])):
            self.refuses(CALLS, (with_begin(LEAST_OF_CALLS, 1, told), "call", M[1]))
        for told in ((M[0],), (None, M[0]), (M[0], M[1]), (None, *places_in(CALLS))):
            self.lets(CALLS, with_begin(LEAST_OF_CALLS, 1, told))

    def test_call_where_it_passes(self):
        code = code_of(block(PERHAPS, CALL, BACK), sub=LEAF)
        table = table_of(code, CELL)
        self.refuses(code, (with_begin(table, 1, (M[0],)), "call", M[1]), (with_begin(table, 1, (None,)), "call", M[1]), (with_begin(table, 1, ()), "call", M[1]))
        self.lets(code, with_begin(table, 1, (None, M[0])))
        # What the TABLE has main begin with goes on, too.
        more = with_begin(table, 0, (None, M[2]))
        self.refuses(code, (more, "call", M[1]), (with_begin(more, 1, (None, M[0])), "call", M[1]), (with_begin(more, 1, (M[0], M[2])), "call", M[1]))
        self.lets(code, with_begin(more, 1, (None, M[0], M[2])))

    def test_call_in_a_routine_that_is_not_entered(self):
        code = code_of(block(BACK), sub=LEAF, zub=(block(STORE, CALL, BACK),))
        table = table_of(code, CELL)
        self.same(table[1], (("main", (None,)), ("sub", ()), ("zub", ())))
        # Where the sources of its routine aren't (), what is MADE there comes, passes or not.
        call = ("zub", 0, 1)
        self.refuses(code, (with_begin(table, 2, (None,)), "call", call), (with_begin(table, 2, (M[0],)), "call", call))
        self.lets(code, with_begin(with_begin(table, 2, (M[0],)), 1, (("zub", 0, 0),)))

    def test_call_where_nothing_stands(self):
        code = code_of(block(BACK), block(CALL, BACK), sub=LEAF)
        table = table_of(code, CELL)
        self.same(table[1][1], ("sub", ()))
        self.lets(code, table)
        more = with_point(with_point(table, 1, (), True), 2, (), True)
        self.refuses(code, (more, "call", ("main", 1, 0)), (with_begin(more, 1, (M[0],)), "call", ("main", 1, 0)))
        self.lets(code, with_begin(more, 1, (None,)))

    def test_the_first_call_of_several(self):
        code = code_of(block(CALL, CALL, BACK), aub=(block(CALL, BACK),), sub=LEAF)
        table = with_begin(table_of(code, CELL), 2, ())
        self.refuses(code, (table, "call", M[0]), (with_begin(table, 0, (None,)), "call", ("aub", 0, 0)), (with_begin(table, 1, ()), "main", -1))

    def test_the_first_of_several(self):
        worse = with_point(with_begin(LEAST_OF_CALLS, 0, ()), 3, (), False)
        self.refuses(CALLS, (worse, "flow", M[2]), (with_point(worse, 4, (), False), "flow", M[2]), (with_point(worse, 0, (), False), "first", M[0]),
                     (with_point(with_point(LEAST_OF_CALLS, 4, (), False), 1, (), True), "flow", M[0]),
                     (with_point(with_point(LEAST_OF_CALLS, 4, (M[0],), False), 5, (), False), "first", S[0]),
                     (with_begin(with_begin(LEAST_OF_CALLS, 0, ()), 1, ()), "main", -1),
                     (with_begin(with_point(LEAST_OF_CALLS, 5, (), True), 1, ()), "flow", S[0]),
                     (with_point(with_point(LEAST_OF_CALLS, 1, (), False), 2, (), False), "flow", M[0]))

    def test_more_than_the_least(self):
        for code in [LEAST, CODE, CALLS] + [busy_code(seed) for seed in range(20)]:
            for cell in cells_in(code):
                self.lets(code, fullest(code), cell=cell)

    def test_all_tables_of_small_code(self):
        for code in (code_of(block(STORE, BACK)), code_of(block(PERHAPS, ("go", 0))), code_of(block(("if", "x", 0, 1)), block(BACK)), LEAST):
            places = places_in(code)
            subsets = [made for many in range(len(places) + 1) for made in itertools.combinations(places, many)]
            least = table_of(code, CELL)
            for entries in itertools.product(itertools.product(subsets, (True, False)), repeat=len(places)):
                points = tuple([(place, *entry) for place, entry in zip(places, entries, strict=True)])
                for told in [*subsets, *[(None, *made) for made in subsets]]:
                    table = (points, (("main", told),))
                    got = said(lets_table, code, CELL, table)
                    self.assertEqual(got, refusal(code, CELL, table))
                    self.assertTrue(got is not True or self.has_all(table, least))

    def has_all(self, table, least):
        """Whether a table has all that the least one has."""
        points = [set(made) <= set(more) and passed >= passes
                  for (place, made, passes), (_, more, passed) in zip(least[0], table[0], strict=True)]
        return all(points) and all([set(told) <= set(more) for (_, told), (_, more) in zip(least[1], table[1], strict=True)])

    def test_what_is_let_by_has_all_that_the_least_one_has(self):
        chance = random.Random(5)
        let = 0

        def more(things, places):
            return tuple(sorted({*things, *[place for place in places if chance.random() < 0.02]} - {None}))

        for seed in range(150):
            code = busy_code(seed, 2)
            places = places_in(code)
            least = table_of(code, CELL)
            for _ in range(12):
                table = fullest(code) if chance.random() < 0.3 else least
                points = tuple([(place, more(made, places), passes ^ (chance.random() < 0.02)) for place, made, passes in table[0]])
                begun = tuple([(name, ((None,) if None in told else ()) + more(told, places)) for name, told in table[1]])
                table = (points, begun)
                if chance.random() < 0.5:
                    k = chance.randrange(len(points))
                    table = with_point(table, k, points[k][1][1:], points[k][2])
                got = said(lets_table, code, CELL, table)
                self.assertEqual(got, refusal(code, CELL, table))
                if got is True:
                    let += 1
                    self.assertTrue(self.has_all(table, least))
        self.assertGreater(let, 100)

    def test_one_thing_fewer_than_the_least(self):
        for seed in range(60):
            code = busy_code(seed)
            least = table_of(code, CELL)
            for k, (place, made, passes) in enumerate(least[0]):
                for at in range(len(made)):
                    self.assertIsNot(said(lets_table, code, CELL, with_point(least, k, made[:at] + made[at + 1:], passes)), True)
                if passes:
                    self.assertIsNot(said(lets_table, code, CELL, with_point(least, k, made, False)), True)
            for k, (name, told) in enumerate(least[1]):
                for at in range(len(told)):
                    self.assertIsNot(said(lets_table, code, CELL, with_begin(least, k, told[:at] + told[at + 1:])), True)

    def test_beyond_the_bounds(self):
        code = ((("a", 9),), (("main", (block(*[PERHAPS] * 60, ("go", 11)), *[block(BACK)] * 11)),))
        self.lets(code, table_of(code, ("a", 8)), cell=("a", 8))

    def test_by_name(self):
        self.assertIs(lets_table(thing=LEAST_OF_CALLS, cell=CELL, code=CALLS), True)


if __name__ == "__main__":
    unittest.main()
