"""[44], [45]: which "store" ROWS a "load" may read: all, and only they."""

import unittest

from storeways.beginnings import begins
from storeways.codes import is_place, places_in, row_at
from storeways.errors import NoPlace
from storeways.faces import cells_in, face
from storeways.freeing import met_places
from storeways.passing import made_at
from storeways.running import trail
from storeways.sources import sources
from storeways.waychecker import shows
from tests.samples import (
    A0, A1, ANY_A, BACK, CELL, CODE, LEAF, LEAST, LOAD, STRANGE, Case, block, busy_code, call, code_of, some_code,
    some_start, store,
)
from tests.tried import in_order, shown_by_ways, tried

READER = (block(LOAD, BACK),)


def loads(code):
    """The PLACES of all "load" ROWS."""
    return [place for place in places_in(code) if row_at(code, place)[0] == "load"]


class TestSources(Case):
    def told(self, code, want, place=None, cell=CELL):
        """Of the first "load", where no PLACE is handed in."""
        self.same(self.untouched(sources, code, place or loads(code)[0], cell), want)

    def test_rows(self):
        self.told(code_of(block(LOAD, BACK)), (None,))
        self.told(code_of(block(store(), LOAD, BACK)), (("main", 0, 0),))
        self.told(code_of(block(store(), store(), LOAD, BACK)), (("main", 0, 1),))
        self.told(code_of(block(store(), store(A1), LOAD, BACK)), (("main", 0, 0),))
        self.told(code_of(block(store(ANY_A), LOAD, BACK)), (None, ("main", 0, 0)))
        self.told(code_of(block(store(), store(ANY_A), LOAD, BACK)), (("main", 0, 0), ("main", 0, 1)))
        self.told(code_of(block(LOAD, store(), BACK)), (None,))

    def test_of_one_cell_of_a_face(self):
        code = code_of(block(store(), store(A1), ("load", "x", ANY_A), BACK))
        self.told(code, (("main", 0, 0),))
        self.told(code, (("main", 0, 1),), cell=("a", 1))
        self.told(code, (None,), cell=("a", 2))

    def test_of_all_cells_of_the_face_together(self):
        code = code_of(block(store(), store(A1), store((("b",), 0, 0)), ("load", "x", ANY_A), BACK))
        place = ("main", 0, 3)
        self.told(code, (None, ("main", 0, 0), ("main", 0, 1)), cell=None)
        self.same(sources(code, place), (None, ("main", 0, 0), ("main", 0, 1)))
        code = code_of(block(store(), ("load", "x", (("a", "b"), "p", 0)), BACK))
        self.told(code, (None, ("main", 0, 0)), cell=None)
        code = code_of(block(store(A1), store(), LOAD, BACK))
        self.told(code, (("main", 0, 1),), cell=None)

    def test_a_cell_that_is_not_one_of_the_face(self):
        code = code_of(block(store(A1), store(), LOAD, BACK))
        for cell in (("a", 1), ("a", 2), ("b", 0), ("c", 0)):
            self.told(code, (), cell=cell)
        code = code_of(block(("load", "x", (("a", "b"), 1, "i")), BACK))
        self.told(code, ())
        self.told(code, (None,), cell=("b", 0))

    def test_a_load_that_no_way_comes_to(self):
        self.told(code_of(block(BACK), block(store(), LOAD, BACK)), ())
        self.told(code_of(block(BACK), sub=(block(store(), LOAD, BACK),)), ())
        self.told(code_of(block(BACK), sub=READER), (), cell=None)
        self.told(code_of(block(store(), call(), LOAD, BACK), sub=(block(("go", 0)),)), ())
        self.told(code_of(block(call("zub"), call(), BACK), sub=READER, zub=(block(("go", 0)),)), ())
        self.told(code_of(block(BACK), sub=READER, zub=(block(store(), call(), BACK),)), ())

    def test_ahead_of_a_call_and_within_it(self):
        self.told(code_of(block(store(), call(), BACK), sub=READER), (("main", 0, 0),))
        self.told(code_of(block(call(), BACK), sub=READER), (None,))
        code = code_of(block(store(), call(), LOAD, BACK), sub=(block(("if", "x", 1, 2)), block(store(), BACK), block(BACK)))
        self.told(code, (("main", 0, 0), ("sub", 1, 0)))
        code = code_of(block(store(), call(), LOAD, BACK), sub=(block(store(), BACK),))
        self.told(code, (("sub", 0, 0),))
        self.told(code_of(block(store(), call(), LOAD, BACK), sub=LEAF), (("main", 0, 0),))

    def test_calls_come_back_to_where_they_were_made(self):
        code = code_of(block(store(), call(), LOAD, store(), call(), LOAD, BACK), sub=READER)
        self.told(code, (("main", 0, 0),), ("main", 0, 2))
        self.told(code, (("main", 0, 3),), ("main", 0, 5))
        self.told(code, (("main", 0, 0), ("main", 0, 3)), ("sub", 0, 0))

    def test_calls_in_calls(self):
        code = code_of(block(store(), call("zub"), BACK), sub=READER, zub=(block(call(), store(ANY_A), call(), BACK),))
        self.told(code, (("main", 0, 0), ("zub", 0, 1)))

    def test_loops(self):
        code = code_of(block(LOAD, store(), ("if", "x", 0, 1)), block(BACK))
        self.told(code, (None, ("main", 0, 1)))
        code = code_of(block(store(), ("go", 1)), block(LOAD, ("if", "x", 2, 3)), block(store(), ("go", 1)), block(BACK))
        self.told(code, (("main", 0, 0), ("main", 2, 0)))

    def test_routines_that_call_one_another(self):
        sub = (block(("if", "x", 1, 2)), block(store(), call("zub"), BACK), block(LOAD, BACK))
        zub = (block(("if", "x", 1, 2)), block(store(), call("sub"), BACK), block(call("sub"), BACK))
        code = code_of(block(call(), LOAD, BACK), sub=sub, zub=zub)
        self.told(code, (None, ("sub", 1, 0), ("zub", 1, 0)), ("sub", 2, 0))
        self.told(code, (None, ("sub", 1, 0), ("zub", 1, 0)), ("main", 0, 1))

    def test_none_is_ahead_of_all_and_places_rise(self):
        code = code_of(block(*[store(ANY_A)] * 11, call("zub"), call("aub"), LOAD, BACK), aub=(block(store(ANY_A), BACK),), zub=(block(store(ANY_A), BACK),))
        self.told(code, (None, ("aub", 0, 0), *[("main", 0, row) for row in range(11)], ("zub", 0, 0)))

    def test_by_their_words(self):
        for seed in range(60):
            code = busy_code(seed)
            for place in loads(code):
                together = set()
                for cell in face(code, row_at(code, place)[2]):
                    made, passes = made_at(code, place, cell)
                    first = begins(code, place[0], cell)
                    want = set(made) | (set(first) if passes else set()) if first else set()
                    self.same(sources(code, place, cell), in_order(want))
                    together |= want
                self.same(sources(code, place), in_order(together))

    def test_against_all_that_can_be_tried(self):
        codes = [some_code(seed) for seed in range(60)] + [busy_code(seed) for seed in range(150)]
        for code in codes:
            met = met_places(code)
            for cell in cells_in(code)[::2]:
                found = tried(code, cell)
                for place in loads(code):
                    inside = cell in face(code, row_at(code, place)[2])
                    told = sources(code, place, cell)
                    self.same(told, in_order(found.get(place, set())) if inside else ())
                    if inside:
                        self.assertEqual(told == (), place not in met)

    def test_against_ways_gone_on_step_by_step(self):
        for seed in range(60):
            code = busy_code(seed, 2)
            told = {(place, cell, source) for place in loads(code) for cell in face(code, row_at(code, place)[2])
                    for source in sources(code, place, cell)}
            shown = shown_by_ways(code, 14)
            self.assertTrue(shown <= told)
            # Longer ways may be due where calls stand in calls; where they come to no more these are all.
            if shown == shown_by_ways(code, 9):
                self.assertEqual(shown, told)

    def test_what_a_run_reads_comes_of_its_sources(self):
        for seed in range(60):
            code = some_code(seed)
            way = trail(code, some_start(seed), 12)
            for many in range(1, len(way) + 1):
                place, choice = way[many - 1]
                if row_at(code, place)[0] == "load":
                    self.assertIn(shows(code, way[:many])[1], sources(code, place, choice))

    def test_other_rows_exchanged_turn_nothing(self):
        for row in (("tell", "x"), ("need", 0), ("set", "y", "*", 2, 2), ("touch", ANY_A)):
            code = code_of(block(row, store(ANY_A), row, call(), LOAD, BACK), sub=(block(row, store(ANY_A), BACK),))
            self.told(code, (None, ("main", 0, 1), ("sub", 0, 1)))

    def test_what_is_told_may_be_handed_in_again(self):
        code = code_of(block(store(ANY_A), LOAD, BACK))
        for source in sources(code, ("main", 0, 1)):
            self.assertTrue(source is None or is_place(code, source))

    def test_refused(self):
        code = code_of(block(LOAD, store(), ("tell", 1), ("touch", A0), ("set", "x", "+", 1, 1), ("need", 1), call(), BACK), sub=LEAF)
        wrong = [("main", 0, row) for row in range(1, 9)]
        wrong.extend([("main", 0, False), ("main", False, 0), ("main", 0, -1), ("main", 1, 0), ("sub", 0, 0), ("none", 0, 0),
                      ["main", 0, 0], ("main", 0), ("main", 0, 0, 0), ("main", [0], 0), (True, 0, 0), 0, "main", ("a", 0)])
        for thing in (*STRANGE, *wrong):
            for cell in (None, CELL, ("b", 1)):
                self.refused(NoPlace, {"place": thing}, sources, code, thing, cell)
            self.refused(NoPlace, {"place": thing}, sources, code, thing)
            self.refused(NoPlace, {"place": thing}, sources, place=thing, code=code)
        thing = ("main", 0, 0)
        self.refused(NoPlace, {"place": thing}, sources, LEAST, thing)

    def test_by_name(self):
        code = code_of(block(store(), ("load", "x", ANY_A), BACK))
        self.same(sources(cell=CELL, place=("main", 0, 1), code=code), (("main", 0, 0),))
        self.same(sources(code=code, place=("main", 0, 1), cell=None), (None, ("main", 0, 0)))
        self.same(sources(code=code, place=("main", 0, 1)), (None, ("main", 0, 0)))
        self.same(sources(CODE, ("main", 0, 0)), sources(CODE, ("main", 0, 0), None))


if __name__ == "__main__":
    unittest.main()
