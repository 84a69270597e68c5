"""[62] to [64]: LIVE PAPERS and DEAD PAPERS looked at, whoever wrote them."""

import random
import unittest

from storeways.codes import places_with, row_at
from storeways.dead import dead
from storeways.deadchecker import lets_dead, lets_live
from storeways.deadpapers import live_or_dead
from storeways.errors import NoPlace
from storeways.faces import cells_in, face
from storeways.freeing import goes_on
from storeways.tables import table_of
from tests.samples import (
    ANY_A, BACK, CELL, LEAST, LOAD, M, PERHAPS, STORE, STRANGE, Case, block, busy_code, code_of, exchanged, fullest,
    said,
)

OTHER = ("a", 1)

# PLACES 0 to 4: a "store" of a CELL, a read, a "store" of any of three, another read, the END.
ROWS = code_of(block(STORE, LOAD, PERHAPS, LOAD, BACK))
READ = ((M[0], CELL), (M[1], CELL))
LATER = (*READ, (M[2], OTHER), (M[3], CELL))
ENDED = (*LATER, (M[4], None))


def seen_by(code, place, cases):
    """What is due of CLOSED TABLES, cases of (CELL, whether it is SHOWN, TABLE): True, or the word and the PLACE."""
    for cell, shown, (points, begun) in cases:
        begun = dict(begun)
        for read, made, passes in points:
            row = row_at(code, read)
            if row[0] == "load" and cell in face(code, row[2]) and begun[read[0]]:
                if place in made or passes and place in begun[read[0]]:
                    return ("read", read)
        for back, made, passes in points:
            if shown and back[0] == "main" and row_at(code, back) == BACK and place in made:
                return ("end", back)
    return True


class TestLetsLive(Case):
    def refuses(self, *cases, code=ROWS):
        """Each case is (place, shown, thing, word, at)."""
        for place, shown, thing, word, at in cases:
            self.no_paper(word, at, lets_live, code, place, shown, thing)

    def test_read(self):
        for shown in (None, (), (CELL,), (("b", 0),)):
            for way in (READ, LATER):
                self.same(self.untouched(lets_live, ROWS, M[0], shown, way), "read")
        self.same(lets_live(ROWS, M[2], (), (*READ, (M[2], CELL), (M[3], CELL))), "read")

    def test_end(self):
        for shown in (None, (CELL,), cells_in(ROWS), (CELL, ("b", 0))):
            self.same(self.untouched(lets_live, ROWS, M[0], shown, ENDED), "end")
        for shown in (None, (OTHER,), (CELL, OTHER)):
            self.same(lets_live(ROWS, M[2], shown, ENDED), "end")

    def test_an_end_of_a_cell_that_is_not_shown(self):
        for shown in ((), (OTHER,), (("a", 2), ("b", 0))):
            self.refuses((M[0], shown, ENDED, "live", -1))
        for shown in ((), (CELL,), (("a", 2), ("b", 0))):
            self.refuses((M[2], shown, ENDED, "live", -1))

    def test_neither(self):
        self.refuses((M[0], None, (), "live", -1), (M[0], None, READ[:1], "live", -1), (M[2], None, READ, "live", -1), (M[2], None, LATER, "live", -1),
                     (M[0], None, LATER[:3], "live", -1), (M[2], None, LATER[:3], "live", -1), (M[2], (), (), "live", -1))
        # It was read on the way, but the last STEP reads something else.
        over = (*READ, (M[2], CELL), (M[3], CELL))
        self.refuses((M[0], None, over, "live", -1), (M[0], None, (*over, (M[4], None)), "live", -1), (M[0], (), ENDED, "live", -1))

    def test_a_read_of_another_cell_than_it_stored(self):
        code = code_of(block(PERHAPS, ("load", "x", ANY_A), BACK))
        for one in range(3):
            for other in range(3):
                way = ((M[0], ("a", one)), (M[1], ("a", other)))
                if one == other:
                    self.same(lets_live(code, M[0], (), way), "read")
                else:
                    self.refuses((M[0], None, way, "live", -1), code=code)

    def test_a_back_of_another_routine_is_no_end(self):
        code = code_of(block(("call", "sub"), BACK), sub=(block(STORE, BACK),))
        way = ((M[0], None), (("sub", 0, 0), CELL), (("sub", 0, 1), None))
        self.refuses((("sub", 0, 0), None, way, "live", -1), code=code)
        self.same(lets_live(code, ("sub", 0, 0), None, (*way, (M[1], None))), "end")

    def test_no_way(self):
        for thing in STRANGE:
            if thing != ():
                self.refuses((M[0], None, thing, "shape", -1), (None, (), thing, "shape", -1))
        self.refuses((M[0], None, list(READ), "shape", -1), (M[0], None, READ[1:], "place", 0), (M[0], None, exchanged(READ, 1, (M[1], OTHER)), "choice", 1),
                     (M[0], None, exchanged(READ, 0, (M[0], ("a", False))), "choice", 0), (M[0], None, (*ENDED, (M[4], None)), "place", 5),
                     (M[0], None, exchanged(READ, 1, (("main", 0, True), CELL)), "shape", -1), (M[1], None, READ[1:], "place", 0), (True, None, READ + ((M[3], CELL),), "place", 2))

    def test_no_store(self):
        odd = (M[1], M[3], M[4], M[5], ("sub", 0, 0), ("main", 0, False), ("main", False, 0), list(M[0]), CELL, ("main", 0), 0, "main")
        for place in (*STRANGE, *odd):
            for way in (READ, ENDED, ()):
                self.refuses((place, None, way, "place", -1), (place, (), way, "place", -1))
        code = code_of(block(("tell", 1), STORE, LOAD, BACK))
        way = ((M[0], None), (M[1], CELL), (M[2], CELL))
        self.same(lets_live(code, M[1], None, way), "read")
        self.refuses((("main", 0, True), None, way, "place", -1), (M[0], None, way, "place", -1), (M[2], None, way, "place", -1), code=code)

    def test_what_is_let_by_is_so(self):
        chance = random.Random(4)
        let = 0
        for seed in range(60):
            code = busy_code(seed)
            cells = cells_in(code)
            way = ()
            for _ in range(40):
                steps = goes_on(code, way)
                if not steps:
                    break
                way = (*way, chance.choice(steps))
                for shown in (None, (), cells[:1]):
                    for place in places_with(code, "store"):
                        if said(lets_live, code, place, shown, way) in ("read", "end"):
                            let += 1
                            self.assertNotIn(place, dead(code, shown))
        self.assertGreater(let, 50)

    def test_by_name(self):
        self.same(lets_live(thing=READ, shown=None, place=M[0], code=ROWS), "read")


class TestLetsDead(Case):
    def refuses(self, code, place, *cases):
        """Each case is (shown, thing, word, at)."""
        for shown, thing, word, at in cases:
            self.no_paper(word, at, lets_dead, code, place, shown, thing)

    def lets(self, code, place, shown, *papers):
        for paper in papers:
            self.assertIs(self.untouched(lets_dead, code, place, shown, paper), True)

    def test_let_by(self):
        code = code_of(block(STORE, STORE, LOAD, BACK))
        for shown in (None, (), (CELL,), (OTHER,)):
            self.lets(code, M[0], shown, (table_of(code, CELL),))

    def test_no_store(self):
        table = table_of(ROWS, CELL)
        for thing in (*STRANGE, M[1], M[3], M[4], M[5], ("main", 0, False), ("main", False, 0), list(M[0]), ("sub", 0, 0)):
            for paper in ((), None, (table,)):
                self.refused(NoPlace, {"place": thing}, lets_dead, ROWS, thing, None, paper)
        code = code_of(block(("tell", 1), STORE, BACK))
        thing = ("main", 0, True)
        self.refused(NoPlace, {"place": thing}, lets_dead, code, thing, (), (table_of(code, CELL),))

    def test_shape(self):
        code = code_of(block(STORE, BACK))
        table = table_of(code, CELL)
        self.lets(code, M[0], (), (table,))
        for thing in (*[thing for thing in STRANGE if thing not in ((None,), ((),))], [table], table, (table, table), 0):
            self.refuses(code, M[0], ((), thing, "shape", -1), (None, thing, "shape", -1))
        code = code_of(block(PERHAPS, BACK))
        tables = tuple([table_of(code, ("a", at)) for at in range(3)])
        self.lets(code, M[0], (), tables)
        for thing in ((), tables[:1], tables[:2], (*tables, tables[0]), list(tables), (tables,)):
            self.refuses(code, M[0], ((), thing, "shape", -1))

    def test_table(self):
        code = code_of(block(STORE, PERHAPS, BACK))
        table = table_of(code, CELL)
        for thing in (None, (), [], list(table), table[:1], (table[0][:-1], table[1]), (exchanged(table[0], 1, (M[1], (M[0],), 0)), table[1]), table_of(LEAST, CELL),
                      (table[0], (("main", ()),)), table_of(code, OTHER), (exchanged(table[0], 1, (M[1], (), False)), table[1])):
            self.refuses(code, M[0], ((), (thing,), "table", 0), (None, (thing,), "table", 0))
        tables = tuple([table_of(code, ("a", at)) for at in range(3)])
        for k in range(3):
            self.refuses(code, M[1], ((), exchanged(tables, k, None), "table", k), ((), (*tables[:k], *[()] * (3 - k)), "table", k))
        # Each one is of the CELL of its place.
        self.refuses(code, M[1], ((), (tables[1], tables[0], tables[2]), "table", 0), ((), (tables[0], tables[0], tables[2]), "table", 1))

    def test_read(self):
        self.refuses(ROWS, M[0], ((), (table_of(ROWS, CELL),), "read", M[1]), (None, (table_of(ROWS, CELL),), "read", M[1]), ((), (fullest(ROWS),), "read", M[1]))
        # A "load" of several CELLS, in another routine, the first of several.
        load = ("load", "y", (("b", "a"), "p", 0))
        code = code_of(block(("call", "sub"), STORE, ("call", "sub"), LOAD, BACK), aub=(block(LOAD, BACK),), sub=(block(load, BACK),))
        self.refuses(code, M[1], ((), (table_of(code, CELL),), "read", M[3]))
        self.refuses(code, M[1], ((), (fullest(code),), "read", ("aub", 0, 0)))
        code = code_of(block(STORE, ("call", "sub"), BACK), sub=(block(load, BACK),))
        self.refuses(code, M[0], ((), (table_of(code, CELL),), "read", ("sub", 0, 0)))

    def test_a_load_of_other_cells_does_not_read_it(self):
        code = code_of(block(STORE, ("load", "x", (("a",), 0, 1)), ("load", "x", (("b", "c"), "p", 0)), BACK))
        self.lets(code, M[0], (), (table_of(code, CELL),), (fullest(code),))

    def test_end(self):
        code = code_of(block(STORE, BACK))
        for shown in (None, (CELL,), (CELL, OTHER)):
            self.refuses(code, M[0], (shown, (table_of(code, CELL),), "end", M[1]), (shown, (fullest(code),), "end", M[1]))
        for shown in ((), (OTHER,)):
            self.lets(code, M[0], shown, (table_of(code, CELL),), (fullest(code),))

    def test_the_first_end(self):
        code = code_of(block(("if", "x", 1, 2)), block(BACK), block(STORE, ("if", "x", 3, 4)), block(BACK), block(STORE, BACK))
        self.refuses(code, ("main", 2, 0), (None, (table_of(code, CELL),), "end", ("main", 3, 0)), (None, (fullest(code),), "end", ("main", 1, 0)))
        self.refuses(code, ("main", 4, 0), (None, (table_of(code, CELL),), "end", ("main", 4, 1)))

    def test_a_back_of_another_routine_is_no_end(self):
        code = code_of(block(("call", "sub"), STORE, BACK), sub=(block(STORE, BACK),))
        self.lets(code, ("sub", 0, 0), None, (table_of(code, CELL),))

    def test_it_is_made_there_whatever_main_begins_with(self):
        # Where a TABLE has main begin with the "store", and the CELL PASSES: it isn't MADE at the END by that.
        code = code_of(block(BACK), block(STORE, BACK))
        table = table_of(code, CELL)
        more = (table[0], (("main", (None, ("main", 1, 0))),))
        self.lets(code, ("main", 1, 0), None, (table,), (more,))
        code = code_of(block(LOAD, BACK), block(STORE, BACK))
        table = table_of(code, CELL)
        more = (table[0], (("main", (None, ("main", 1, 0))),))
        self.lets(code, ("main", 1, 0), None, (table,))
        self.refuses(code, ("main", 1, 0), (None, (more,), "read", M[0]))

    def test_table_by_table(self):
        code = code_of(block(PERHAPS, ("load", "x", (("a",), 0, 1)), BACK))
        tables = tuple([table_of(code, ("a", at)) for at in range(3)])
        self.refuses(code, M[0], ((), tables, "read", M[1]), (None, tables, "end", M[2]), ((("a", 2),), tables, "read", M[1]), ((OTHER,), tables, "read", M[1]),
                     ((), exchanged(tables, 2, None), "read", M[1]), ((), exchanged(tables, 1, None), "table", 1), (None, exchanged(tables, 1, None), "end", M[2]),
                     ((("a", 2),), exchanged(tables, 1, None), "table", 1), (None, exchanged(tables, 0, None), "table", 0))
        code = code_of(block(PERHAPS, BACK))
        tables = tuple([table_of(code, ("a", at)) for at in range(3)])
        self.refuses(code, M[0], ((("a", 2),), tables, "end", M[1]), ((("a", 2),), exchanged(tables, 2, ()), "table", 2))
        # Of one TABLE the read goes ahead of the end.
        code = code_of(block(STORE, LOAD, BACK))
        self.refuses(code, M[0], (None, (table_of(code, CELL),), "read", M[1]))

    def test_a_routine_that_no_way_enters_by_the_table(self):
        code = code_of(block(BACK), sub=(block(STORE, LOAD, BACK),))
        place = ("sub", 0, 0)
        table = table_of(code, CELL)
        self.lets(code, place, None, (table,))
        self.refuses(code, place, (None, ((table[0], exchanged(table[1], 1, ("sub", (None,)))),), "read", ("sub", 0, 1)))

    def test_what_is_let_by_is_so(self):
        for seed in range(60):
            code = busy_code(seed)
            cells = cells_in(code)
            for place in places_with(code, "store"):
                for shown in (None, (), cells[:1]):
                    tables = live_or_dead(code, place, ())[1]
                    told = said(lets_dead, code, place, shown, tables)
                    if told is True:
                        self.assertIn(place, dead(code, shown))
                    if live_or_dead(code, place, ())[0] == "dead":
                        # The least TABLES: they are let by just where it is DEAD.
                        self.assertEqual(told is True, place in dead(code, shown))

    def test_by_its_words(self):
        chance = random.Random(6)
        for seed in range(80):
            code = busy_code(seed)
            for place in places_with(code, "store"):
                for shown in (None, (), cells_in(code)[:1]):
                    cells = face(code, row_at(code, place)[1])
                    tables = tuple([fullest(code) if chance.random() < 0.2 else table_of(code, cell) for cell in cells])
                    want = seen_by(code, place, [(cell, shown is None or cell in shown, table) for cell, table in zip(cells, tables)])
                    self.assertEqual(said(lets_dead, code, place, shown, tables), want)

    def test_by_name(self):
        code = code_of(block(STORE, BACK))
        self.assertIs(lets_dead(thing=(table_of(code, CELL),), shown=(), place=M[0], code=code), True)


if __name__ == "__main__":
    unittest.main()
