"""[46], [50], [51]: papers told on what a "load" may read, and that it reads no other."""

import unittest

from storeways.codes import is_place_of, places_in, places_with, row_at
from storeways.errors import NoPlace
from storeways.faces import face
from storeways.freeing import met_places
from storeways.sourcechecker import lets_none, lets_source
from storeways.sourcepapers import none_paper, source_paper
from storeways.sources import sources
from storeways.tables import table_of
from storeways.waychecker import lets_way, shows
from tests.samples import (
    A0, A1, ANY_A, BACK, CELL, CODE, LEAF, LEAST, LOAD, M, NEVER, STRANGE, Case, block, busy_code, call, code_of,
    said, some_code, store,
)


def many_codes():
    return [CODE] + [some_code(seed) for seed in range(50)] + [busy_code(seed) for seed in range(80)]


class TestSourcePaper(Case):
    def papers(self, code, place, *want):
        """Just these are SOURCES, and of each a paper is told and let by."""
        self.same(sources(code, place), want)
        for source in want:
            self.paper(code, place, source)

    def paper(self, code, place, source):
        """The paper of this source, which is let by with the CELL that its last STEP chose."""
        paper = self.untouched(source_paper, code, place, source)
        self.same(shows(code, paper), (place, source))
        cell = lets_source(code, place, source, paper)
        self.same(paper[-1], (place, cell))
        self.assertIn(source, sources(code, place, cell))
        return paper

    def test_one_row(self):
        code = code_of(block(LOAD, BACK))
        self.papers(code, M[0], None)
        self.same(source_paper(code, M[0], None), ((M[0], CELL),))
        code = code_of(block(store(), LOAD, BACK))
        self.papers(code, M[1], M[0])
        self.same(source_paper(code, M[1], M[0]), ((M[0], CELL), (M[1], CELL)))

    def test_another_cell_is_chosen_on_the_way(self):
        code = code_of(block(store(ANY_A), store(ANY_A), LOAD, BACK))
        self.papers(code, M[2], None, M[0], M[1])
        for source, first, second in ((M[0], True, False), (M[1], None, True), (None, False, False)):
            paper = source_paper(code, M[2], source)
            if first is not None:
                self.assertEqual(paper[0][1] == CELL, first)
            self.assertEqual(paper[1][1] == CELL, second)

    def test_the_cell_of_several(self):
        code = code_of(block(store((("a",), 0, 2)), ("load", "x", ANY_A), BACK))
        self.papers(code, M[1], None, M[0])
        self.same(lets_source(code, M[1], M[0], source_paper(code, M[1], M[0])), ("a", 2))
        code = code_of(block(store(), store(A1), store((("a",), 0, 2)), ("load", "x", ANY_A), BACK))
        self.papers(code, M[3], *M[:3])

    def test_by_a_way_around(self):
        code = code_of(block(store(), ("if", "x", 1, 2)), block(store(), ("go", 3)), block(("go", 3)), block(LOAD, BACK))
        self.papers(code, ("main", 3, 0), M[0], ("main", 1, 0))

    def test_loops(self):
        code = code_of(block(LOAD, store(), ("if", "x", 0, 1)), block(BACK))
        self.papers(code, M[0], None, M[1])
        # The "store" that is sought stands behind the "load", another one ahead of it.
        code = code_of(block(store(), ("go", 1)), block(LOAD, ("if", "x", 2, 3)), block(store(ANY_A), ("go", 1)), block(BACK))
        self.papers(code, ("main", 1, 0), M[0], ("main", 2, 0))

    def test_other_routines(self):
        code = code_of(block(store(), call(), LOAD, BACK), sub=(block(("if", "x", 1, 2)), block(store(), BACK), block(LOAD, BACK)))
        self.papers(code, M[2], M[0], ("sub", 1, 0))
        self.papers(code, ("sub", 2, 0), M[0])

    def test_calls_stay_open(self):
        code = code_of(block(store(), call(), BACK), sub=(block(call("zub"), BACK),), zub=(block(LOAD, BACK),))
        self.papers(code, ("zub", 0, 0), M[0])
        self.same(source_paper(code, ("zub", 0, 0), M[0]), ((M[0], CELL), (M[1], None), (("sub", 0, 0), None), (("zub", 0, 0), CELL)))

    def test_calls_come_back_to_where_they_were_made(self):
        code = code_of(block(store(), call(), store(), call(), LOAD, BACK), sub=(block(LOAD, BACK),))
        self.papers(code, ("sub", 0, 0), M[0], M[2])
        self.papers(code, M[4], M[2])

    def test_a_routine_that_calls_itself(self):
        sub = (block(("if", "x", 1, 2)), block(store(), call(), store(ANY_A), BACK), block(LOAD, BACK))
        code = code_of(block(call(), LOAD, BACK), sub=sub)
        self.papers(code, ("sub", 2, 0), None, ("sub", 1, 0))
        self.papers(code, M[1], None, ("sub", 1, 0), ("sub", 1, 2))

    def test_only_by_a_call_within_the_same_one(self):
        # The "store" is done only where the routine was entered with sub open, and stands behind both "back".
        sub = (block(("if", "x", 1, 2)), block(call(), call("zub"), BACK), block(BACK))
        code = code_of(block(store(), call(), LOAD, BACK), sub=sub, zub=(block(store(), BACK),))
        self.papers(code, M[2], M[0], ("zub", 0, 0))

    def test_ways_through_a_routine_by_what_they_do(self):
        # One way through sub stores, another one doesn't: a paper takes now this and now that one.
        sub = (block(("if", "x", 1, 2)), block(store(), BACK), block(BACK))
        code = code_of(block(store(), call(), call(), store(ANY_A), call(), LOAD, BACK), sub=sub)
        self.papers(code, M[5], M[0], M[3], ("sub", 1, 0))

    def test_deep_calls(self):
        names = ["s" + letter for letter in "abcdefghijklmnopqrstuvwxyz"]
        routines = {name: (block(call(after), call(after), BACK),) for name, after in zip(names[:8], names[1:9])}
        code = code_of(block(store(), call("sa"), LOAD, BACK), **routines, si=(block(store(ANY_A), BACK),))
        self.papers(code, M[2], M[0], ("si", 0, 0))

    def test_all_sources_of_made_code(self):
        for code in many_codes():
            for place in places_with(code, "load"):
                self.papers(code, place, *sources(code, place))

    def test_just_those(self):
        for seed in range(40):
            code = busy_code(seed)
            for place in places_with(code, "load"):
                for source in (None, *places_in(code)):
                    if source not in sources(code, place):
                        self.refused(NoPlace, {"place": source}, source_paper, code, place, source)

    def test_no_load(self):
        code = code_of(block(LOAD, store(), ("tell", 1), ("touch", A0), ("set", "x", "+", 1, 1), ("need", 1), call(), BACK), sub=LEAF)
        odd = [("main", 0, row) for row in range(1, 9)]
        odd.extend([("main", 0, False), ("main", False, 0), ("main", 0, -1), ("main", 1, 0), ("sub", 0, 0), ("none", 0, 0), ["main", 0, 0],
                    ("main", 0), ("main", 0, 0, 0), ("main", [0], 0), (True, 0, 0), 0, "main", CELL])
        for thing in (*STRANGE, *odd):
            for source in (None, M[0], [], True, thing):
                self.refused(NoPlace, {"place": thing}, source_paper, code, thing, source)
                self.refused(NoPlace, {"place": thing}, none_paper, code, thing, source)
        self.refused(NoPlace, {"place": M[0]}, source_paper, LEAST, M[0], None)

    def test_no_source(self):
        code = code_of(block(("tell", 1), store(), LOAD, store(), BACK))
        odd = [("main", 0, row) for row in (0, 2, 3, 4, 5)]
        odd.extend([("main", 0, True), ("main", False, 1), ["main", 0, 1], ("none", 0, 0), CELL, 1, 0, "START", ("main", 0, [1])])
        for thing in (*STRANGE, *odd):
            self.refused(NoPlace, {"place": thing}, source_paper, code, M[2], thing)
        self.papers(code, M[2], M[1])

    def test_a_load_that_no_way_comes_to(self):
        for code, place in ((code_of(block(BACK), block(store(), LOAD, BACK)), ("main", 1, 1)), (code_of(block(call(), store(), LOAD, BACK), sub=NEVER), M[2]),
                            (code_of(block(BACK), sub=(block(store(), LOAD, BACK),)), ("sub", 0, 1))):
            self.same(sources(code, place), ())
            for source in (None, place, *places_in(code)):
                self.refused(NoPlace, {"place": source}, source_paper, code, place, source)

    def test_other_rows_exchanged_turn_nothing(self):
        for row in (("tell", "x"), ("need", 0), ("set", "y", "*", 2, 2), ("touch", ANY_A)):
            code = code_of(block(row, store(ANY_A), row, call(), LOAD, BACK), sub=(block(row, store(ANY_A), BACK),))
            self.papers(code, M[4], None, M[1], ("sub", 0, 1))
            self.assertIs(none_paper(code, M[4], M[1]), None)
            self.assertIs(lets_none(code, M[4], M[0], none_paper(code, M[4], M[0])), True)

    def test_by_name(self):
        code = code_of(block(store(), LOAD, BACK))
        self.same(source_paper(source=M[0], place=M[1], code=code), ((M[0], CELL), (M[1], CELL)))


class TestNonePaper(Case):
    def test_of_each_thing_one_of_both(self):
        for code in many_codes()[::2]:
            loads = places_with(code, "load")
            for place in loads[:2] + loads[-1:]:
                for source in (None, *places_in(code), ("none", 0, 0), True, ()):
                    has = (source is None or is_place_of(code, "store", source)) and source in sources(code, place)
                    paper = none_paper(code, place, source)
                    if has:
                        self.assertIsNone(paper)
                        lets_source(code, place, source, source_paper(code, place, source))
                    else:
                        self.assertIs(lets_none(code, place, source, paper), True)
                        self.refused(NoPlace, {"place": source}, source_paper, code, place, source)

    def test_one_table_of_each_cell(self):
        code = code_of(block(store(), ("load", "x", (("b", "a"), "p", "i")), BACK))
        cells = face(code, row_at(code, M[1])[2])
        paper = self.untouched(none_paper, code, M[1], M[1])
        self.same(len(paper), 5)
        self.assertIs(lets_none(code, M[1], M[1], paper), True)
        # Any CLOSED TABLES would do; it has the least ones.
        self.same(paper, tuple([table_of(code, cell) for cell in cells]))

    def test_what_is_one_of_its_sources(self):
        code = code_of(block(store(ANY_A), LOAD, BACK))
        self.assertIsNone(self.untouched(none_paper, code, M[1], M[0]))
        self.assertIsNone(none_paper(code, M[1], None))

    def test_any_thing(self):
        code = code_of(block(("tell", 1), store(), LOAD, store(), BACK))
        odd = (*STRANGE, ("main", 0, True), ("main", False, 1), ["main", 0, 1], M[0], M[2], M[3], M[4], ("none", 0, 0), CELL, 1, "START")
        for thing in odd:
            paper = self.untouched(none_paper, code, M[2], thing)
            self.assertIs(lets_none(code, M[2], thing, paper), True)
        self.assertIsNone(none_paper(code, M[2], M[1]))

    def test_a_load_that_no_way_comes_to(self):
        for code, place in ((code_of(block(BACK), block(store(), LOAD, BACK)), ("main", 1, 1)), (code_of(block(call(), store(), LOAD, BACK), sub=NEVER), M[2]),
                            (code_of(block(BACK), sub=(block(store(), LOAD, BACK),)), ("sub", 0, 1))):
            self.assertNotIn(place, met_places(code))
            for source in (None, *places_in(code)):
                self.assertIs(lets_none(code, place, source, none_paper(code, place, source)), True)

    def test_never_both(self):
        for seed in range(60):
            code = busy_code(seed)
            for place in places_with(code, "load"):
                for source in sources(code, place):
                    # The papers of other things and of other loads are none of this source.
                    for thing in (none_paper(code, place, ()), none_paper(code, place, place)):
                        self.assertEqual(said(lets_none, code, place, source, thing)[0], "source")
                for source in (None, *places_with(code, "store")):
                    if source not in sources(code, place):
                        for other in sources(code, place):
                            self.assertEqual(said(lets_source, code, place, source, source_paper(code, place, other)), ("source", -1))

    def test_ways_are_let_by(self):
        code = code_of(block(store(), LOAD, BACK))
        self.same(lets_way(code, source_paper(code, M[1], M[0])), ("open", ((CELL, M[0]),)))

    def test_by_name(self):
        code = code_of(block(store(), LOAD, BACK))
        self.assertIsNone(none_paper(source=M[0], place=M[1], code=code))
        self.same(none_paper(code=code, source=None, place=M[1]), (table_of(code, CELL),))


if __name__ == "__main__":
    unittest.main()
