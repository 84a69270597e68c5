"""[46], [50], [51]: SOURCE PAPERS and NONE PAPERS looked at, whoever wrote them."""

import random
import unittest

from storeways.codes import places_in, places_with
from storeways.errors import NoPlace
from storeways.faces import cells_in
from storeways.freeing import goes_on
from storeways.sourcechecker import lets_none, lets_source
from storeways.sourcepapers import none_paper, source_paper
from storeways.sources import sources
from storeways.tables import table_of
from tests.samples import (
    ANY_A, BACK, CELL, LEAST, LOAD, M, PERHAPS, STORE, STRANGE, Case, block, busy_code, code_of, exchanged, fullest,
    said,
)


# PLACES 0 to 5: a "store" of a CELL, one of any of three, two reads, a third "store", the END.
ROWS = code_of(block(STORE, PERHAPS, LOAD, ("load", "x", ANY_A), STORE, BACK))
WAY = ((M[0], CELL), (M[1], ("a", 1)), (M[2], CELL))


class TestLetsSource(Case):
    def refuses(self, *cases, code=ROWS):
        """Each case is (place, source, thing, word, at)."""
        for place, source, thing, word, at in cases:
            self.no_paper(word, at, lets_source, code, place, source, thing)

    def test_the_cell_is_told(self):
        self.same(self.untouched(lets_source, ROWS, M[2], M[0], WAY), CELL)
        for cell in (CELL, ("a", 1), ("a", 2)):
            source = {CELL: M[0], ("a", 1): M[1]}.get(cell)
            self.same(self.untouched(lets_source, ROWS, M[3], source, (*WAY, (M[3], cell))), cell)

    def test_none_is_the_start(self):
        code = code_of(block(LOAD, BACK))
        self.same(self.untouched(lets_source, code, M[0], None, ((M[0], CELL),)), CELL)

    def test_no_way(self):
        for thing in STRANGE:
            if thing != ():
                self.refuses((M[2], M[0], thing, "shape", -1), (None, True, thing, "shape", -1))
        self.refuses((M[2], M[0], list(WAY), "shape", -1), (M[2], M[0], WAY + (None,), "shape", -1), (M[2], M[0], (list(WAY[0]), *WAY[1:]), "shape", -1),
                     (M[2], M[0], exchanged(WAY, 1, (("main", 0, True), ("a", 1))), "shape", -1), (M[2], M[0], WAY[1:], "place", 0),
                     (M[2], M[0], exchanged(WAY, 2, (M[3], CELL)), "place", 2), (M[2], M[0], exchanged(WAY, 0, (M[0], ("a", False))), "choice", 0),
                     (M[2], M[0], exchanged(WAY, 2, (M[2], ("a", 1))), "choice", 2), (M[2], M[0], exchanged(WAY, 1, (M[1], None)), "choice", 1),
                     (M[2], M[0], exchanged(WAY, 0, (M[0], ("a", 1))) + (None,), "shape", -1))

    def test_no_load_at_its_end(self):
        self.refuses((M[2], M[0], (), "load", -1), (M[0], M[0], WAY[:1], "load", -1), (M[1], M[0], WAY[:2], "load", -1))
        ended = (*WAY, (M[3], CELL), (M[4], CELL), (M[5], None))
        self.refuses((M[3], M[0], ended, "load", -1), (M[3], M[0], (*ended, (M[5], None)), "place", 6), (None, True, ended, "load", -1))
        self.no_paper("load", -1, lets_source, LEAST, M[0], None, ())

    def test_another_read(self):
        for place in (M[0], M[1], M[3], M[4], M[5], M[6], ("sub", 0, 0), ("main", 0, True), ("main", False, 2), list(M[2]), CELL,
                      ("main", 0), 2, "main", *STRANGE):
            self.refuses((place, M[0], WAY, "read", -1), (place, None, WAY, "read", -1), (place, True, WAY, "read", -1))
        # A truth for the 1 of the PLACE that the way SHOWS.
        code = code_of(block(STORE, LOAD, BACK))
        way = ((M[0], CELL), (M[1], CELL))
        self.same(lets_source(code, M[1], M[0], way), CELL)
        self.refuses((("main", 0, True), M[0], way, "read", -1), (("main", False, 1), M[0], way, "read", -1), code=code)

    def test_another_source(self):
        for source in (M[1], M[2], M[4], M[5], M[6], None, ("main", 0, False), ("main", False, 0), list(M[0]), CELL, 0, "START", *STRANGE):
            self.refuses((M[2], source, WAY, "source", -1))
        code = code_of(block(LOAD, BACK))
        for source in (M[0], M[1], *STRANGE[1:]):
            self.refuses((M[0], source, ((M[0], CELL),), "source", -1), code=code)
        code = code_of(block(("tell", 1), STORE, LOAD, BACK))
        way = ((M[0], None), (M[1], CELL), (M[2], CELL))
        self.same(lets_source(code, M[2], M[1], way), CELL)
        self.refuses((M[2], ("main", 0, True), way, "source", -1), (M[2], None, way, "source", -1), code=code)

    def test_the_first_of_several(self):
        self.refuses((M[3], M[1], WAY, "read", -1), (M[3], M[1], WAY[:2], "load", -1), (M[3], M[1], WAY[1:], "place", 0))

    def test_the_last_store_to_the_cell_counts(self):
        code = code_of(block(STORE, STORE, PERHAPS, LOAD, BACK))
        ways = {cell: ((M[0], CELL), (M[1], CELL), (M[2], cell), (M[3], CELL)) for cell in (CELL, ("a", 1))}
        self.same(lets_source(code, M[3], M[2], ways[CELL]), CELL)
        self.same(lets_source(code, M[3], M[1], ways[("a", 1)]), CELL)
        self.refuses((M[3], M[1], ways[CELL], "source", -1), (M[3], M[2], ways[("a", 1)], "source", -1), (M[3], M[0], ways[CELL], "source", -1), code=code)

    def test_what_is_let_by_is_one_of_its_sources(self):
        chance = random.Random(3)
        let = 0
        for seed in range(80):
            code = busy_code(seed)
            way = ()
            for _ in range(40):
                steps = goes_on(code, way)
                if not steps:
                    break
                way = (*way, chance.choice(steps))
                for source in (None, *places_with(code, "store")):
                    told = said(lets_source, code, way[-1][0], source, way)
                    if told in cells_in(code):
                        let += 1
                        self.assertIn(source, sources(code, way[-1][0], told))
                        for thing in (none_paper(code, way[-1][0], ()), (fullest(code),) * len(none_paper(code, way[-1][0], ()))):
                            self.assertEqual(said(lets_none, code, way[-1][0], source, thing)[0], "source")
        self.assertGreater(let, 50)

    def test_by_name(self):
        self.same(lets_source(thing=WAY, source=M[0], place=M[2], code=ROWS), CELL)


class TestLetsNone(Case):
    def refuses(self, code, place, *cases):
        """Each case is (source, thing, word, at)."""
        for source, thing, word, at in cases:
            self.no_paper(word, at, lets_none, code, place, source, thing)

    def test_let_by(self):
        for source in (M[4], M[2], M[3], M[5], ("main", 0, True), ("main", False, 0), [], CELL, "START", *STRANGE[1:]):
            self.assertIs(self.untouched(lets_none, ROWS, M[2], source, (table_of(ROWS, CELL),)), True)

    def test_no_load(self):
        for thing in (*STRANGE, M[0], M[1], M[4], M[5], M[6], ("main", 0, True), ("main", False, 2), list(M[2]), ("sub", 0, 0)):
            for paper in ((), None, (table_of(ROWS, CELL),)):
                self.refused(NoPlace, {"place": thing}, lets_none, ROWS, thing, None, paper)
        code = code_of(block(("tell", 1), LOAD, BACK))
        thing = ("main", 0, True)
        self.refused(NoPlace, {"place": thing}, lets_none, code, thing, None, ())

    def test_shape(self):
        table = table_of(ROWS, CELL)
        for thing in (*[thing for thing in STRANGE if thing not in ((None,), ((),))], [table], table, (table, table), (table,) * 3, 0):
            self.refuses(ROWS, M[2], (M[4], thing, "shape", -1), (M[0], thing, "shape", -1))
        tables = tuple([table_of(ROWS, ("a", at)) for at in range(3)])
        self.assertIs(lets_none(ROWS, M[3], M[4], tables), True)
        for thing in ((), tables[:1], tables[:2], (*tables, table), list(tables), (tables,)):
            self.refuses(ROWS, M[3], (M[4], thing, "shape", -1))

    def test_table(self):
        table = table_of(ROWS, CELL)
        for thing in (None, (), [], list(table), table[:1], (table[0][:-1], table[1]), (exchanged(table[0], 1, (M[1], (M[0],), 0)), table[1]), table_of(LEAST, CELL),
                      (table[0], (("main", ()),)), table_of(ROWS, ("a", 1)), (exchanged(table[0], 1, (M[1], (), False)), table[1])):
            self.refuses(ROWS, M[2], (M[4], (thing,), "table", 0), (M[0], (thing,), "table", 0))
        tables = tuple([table_of(ROWS, ("a", at)) for at in range(3)])
        for k in range(3):
            self.refuses(ROWS, M[3], (M[4], exchanged(tables, k, None), "table", k), (M[4], (*tables[:k], *[()] * (3 - k)), "table", k))
        # Each one is of the CELL of its place.
        self.refuses(ROWS, M[3], (M[4], (tables[1], tables[0], tables[2]), "table", 0), (M[4], (tables[0], tables[0], tables[2]), "table", 1),
                     (M[4], (tables[0], tables[1], tables[0]), "table", 2))

    def test_source(self):
        self.refuses(ROWS, M[2], (M[0], (table_of(ROWS, CELL),), "source", 0), (M[1], (table_of(ROWS, CELL),), "source", 0))
        tables = tuple([table_of(ROWS, ("a", at)) for at in range(3)])
        self.refuses(ROWS, M[3], (M[0], tables, "source", 0), (M[1], tables, "source", 0), (None, tables, "source", 1))
        full = fullest(ROWS)
        for source in (None, *places_in(ROWS)):
            self.refuses(ROWS, M[2], (source, (full,), "source", 0))
            self.refuses(ROWS, M[3], (source, (full, full, full), "source", 0))
        self.refuses(ROWS, M[3], (M[4], (tables[0], full, full), "source", 1), (M[4], (tables[0], tables[1], full), "source", 2))
        # What can be no source at all is had by no TABLE.
        for source in (("main", 0, True), ("main", 0, False), True, 0, (), "START", list(M[0])):
            self.assertIs(lets_none(ROWS, M[2], source, (full,)), True)

    def test_table_by_table(self):
        tables = tuple([table_of(ROWS, ("a", at)) for at in range(3)])
        self.refuses(ROWS, M[3], (M[0], exchanged(tables, 1, None), "source", 0), (None, exchanged(tables, 1, None), "table", 1),
                     (None, exchanged(tables, 2, None), "source", 1), (M[1], exchanged(tables, 0, None), "table", 0))

    def test_a_routine_that_no_way_enters_by_the_table(self):
        code = code_of(block(BACK), sub=(block(STORE, LOAD, BACK),))
        place, made = ("sub", 0, 1), ("sub", 0, 0)
        table = table_of(code, CELL)
        self.same(table[1][1], ("sub", ()))
        # Whatever is MADE there: none where the sources of the routine are ().
        self.assertIs(lets_none(code, place, made, (table,)), True)
        begun = lambda told: (table[0], exchanged(table[1], 1, ("sub", told)))
        self.refuses(code, place, (made, (begun((None,)),), "source", 0), (made, (begun((M[0],)),), "source", 0))
        # It doesn't PASS there, so what the routine begins with isn't read.
        self.assertIs(lets_none(code, place, None, (begun((None,)),)), True)
        self.assertIs(lets_none(code, place, M[0], (begun((M[0],)),)), True)

    def test_what_the_routine_begins_with_where_it_passes(self):
        code = code_of(block(BACK), sub=(block(LOAD, BACK),))
        place = ("sub", 0, 0)
        table = table_of(code, CELL)
        self.assertIs(lets_none(code, place, None, (table,)), True)
        begun = lambda told: (table[0], exchanged(table[1], 1, ("sub", told)))
        self.refuses(code, place, (None, (begun((None,)),), "source", 0), (M[0], (begun((M[0],)),), "source", 0))
        self.assertIs(lets_none(code, place, None, (begun((M[0],)),)), True)
        self.assertIs(lets_none(code, place, M[0], (begun((None,)),)), True)

    def test_what_a_source_is_that_a_closed_table_lacks(self):
        for seed in range(60):
            code = busy_code(seed)
            for place in places_with(code, "load")[:3]:
                paper = none_paper(code, place, ())
                for source in (None, *places_in(code)):
                    told = said(lets_none, code, place, source, paper)
                    self.assertEqual(told is True, source not in sources(code, place))
                    if told is not True:
                        self.same(source_paper(code, place, source)[-1][0], place)

    def test_by_name(self):
        self.assertIs(lets_none(thing=(table_of(ROWS, CELL),), source=M[4], place=M[2], code=ROWS), True)


if __name__ == "__main__":
    unittest.main()
