"""[72], [75]: TURNINGS and CHAINS looked at, whoever wrote them."""

import unittest

from storeways.carrying import carry
from storeways.codes import is_code, places_in, routines_of
from storeways.faces import cells_in
from storeways.holding import hold_table
from storeways.leaving import leave
from storeways.rereading import reread
from storeways.tables import table_of
from storeways.turnchecker import lets_chain, lets_turning
from storeways.turnings import turned
from tests.samples import (
    A0, A1, ANY_A, BACK, CALL, CELL, CODE, LEAF, LEAST, LOAD, M, PERHAPS, STORE, STRANGE, Case, block, code_of,
    exchanged, fullest,
)

# What is no PLACE of one CODE or another, or not of this ROW.
ODD_PLACES = (*STRANGE, ("main", 0, True), ("main", False, 0), ["main", 0, 0], ("main", 0), ("none", 0, 0), ("main", 9, 0), ("main", 0, -1), CELL, 0, "main")


def changed(thing, **parts):
    """A TURNING with another thing at these of its parts."""
    names = {"left": ("word", "place", "paper"), "carried": ("word", "place", "name", "store", "paper"), "again": ("word", "place", "name", "paper")}[thing[0]]
    for name, part in parts.items():
        thing = exchanged(thing, names.index(name), part)
    return thing


class TurnCase(Case):
    def lets(self, code, thing, shown=None):
        """It is let by, with the CODE of turned."""
        newer = self.untouched(lets_turning, code, shown, thing)
        self.same(newer, turned(code, thing))
        self.assertTrue(is_code(newer))

    def refuses(self, code, *cases, shown=None):
        """Each case is (thing, word, at)."""
        for thing, word, at in cases:
            self.no_paper(word, at, lets_turning, code, shown, thing)


class TestShape(TurnCase):
    code = code_of(block(STORE, STORE, LOAD, LOAD, BACK))

    def test_things_that_are_none(self):
        for thing in STRANGE:
            self.refuses(self.code, (thing, "shape", -1))

    def test_words_and_sizes(self):
        left, carried, again = leave(self.code, M[0]), carry(self.code, M[2]), reread(self.code, M[3])
        for thing in (left, carried, again):
            self.lets(self.code, thing)
            for other in (list(thing), thing[:-1], thing + (None,), thing[1:], (thing,), thing[:1], (thing[0],) * len(thing) + (1,), ("",) + thing[1:],
                          (None,) + thing[1:], (True,) + thing[1:], (["left"],) + thing[1:], ("turn",) + thing[1:], (thing[0] + "x",) + thing[1:], ((thing[0],),) + thing[1:]):
                self.refuses(self.code, (other, "shape", -1))
        for word, sizes in (("left", (1, 2, 4, 5)), ("carried", (1, 2, 3, 4, 6)), ("again", (1, 2, 3, 5))):
            for size in sizes:
                self.refuses(self.code, ((word, *[M[0]] * (size - 1)), "shape", -1))
        self.refuses(self.code, (("again", *left[1:]), "shape", -1), (("left", *again[1:]), "shape", -1), (("carried", *again[1:]), "shape", -1))


class TestLeft(TurnCase):
    code = code_of(block(STORE, STORE, LOAD, BACK))
    thing = ("left", M[0], (table_of(code, CELL),))

    def test_let_by(self):
        for shown in (None, (), (CELL,), (("b", 1),)):
            self.lets(self.code, self.thing, shown)
        self.same(lets_turning(self.code, None, self.thing), code_of(block(STORE, LOAD, BACK)))

    def test_the_fault_is_kept(self):
        store = ("store", (("c",), "p", "i"), 1)
        code = code_of(block(store, BACK))
        self.same(lets_turning(code, (), leave(code, M[0], ())), code_of(block(("touch", store[1]), BACK)))

    def test_place(self):
        for place in (*ODD_PLACES, M[2], M[3], M[4]):
            self.refuses(self.code, (changed(self.thing, place=place), "place", -1), (("left", place, None), "place", -1))
        code = code_of(block(("tell", 1), STORE, BACK))
        thing = leave(code, M[1], ())
        self.lets(code, thing, ())
        self.refuses(code, (changed(thing, place=("main", 0, True)), "place", -1), (changed(thing, place=["main", 0, 1]), "place", -1), shown=())

    def test_the_paper(self):
        table = table_of(self.code, CELL)
        for paper in (None, (), [table], (table, table), table, True):
            self.refuses(self.code, (changed(self.thing, paper=paper), "shape", -1))
        for paper in (None, (), (table[0][1:], table[1]), table_of(self.code, ("a", 1)), (table[0], (("main", ()),))):
            self.refuses(self.code, (changed(self.thing, paper=(paper,)), "table", 0))
        self.refuses(self.code, (changed(self.thing, paper=(fullest(self.code),)), "read", M[2]))

    def test_another_store(self):
        self.refuses(self.code, (changed(self.thing, place=M[1]), "read", M[2]))
        code = code_of(block(STORE, STORE, BACK))
        self.refuses(code, (("left", M[1], (table_of(code, CELL),)), "end", M[2]))
        self.refuses(code, (("left", M[1], (table_of(code, CELL),)), "end", M[2]), shown=(CELL, ("a", 1)))
        self.lets(code, ("left", M[1], (table_of(code, CELL),)), ())
        self.lets(code, ("left", M[1], (table_of(code, CELL),)), (("a", 1),))

    def test_several_cells(self):
        code = code_of(block(PERHAPS, PERHAPS, ("load", "x", A1), BACK))
        tables = tuple([table_of(code, ("a", at)) for at in range(3)])
        self.refuses(code, (("left", M[0], tables), "read", M[2]), (("left", M[0], tables[:1]), "shape", -1), (("left", M[0], exchanged(tables, 1, None)), "table", 1),
                     (("left", M[0], exchanged(tables, 2, None)), "read", M[2]), shown=())
        self.refuses(code, (("left", M[0], tables), "end", M[3]))
        code = code_of(block(PERHAPS, PERHAPS, ("load", "x", (("b",), 0, 1)), BACK))
        self.lets(code, leave(code, M[0], ()), ())

    def test_of_other_code(self):
        code = code_of(block(STORE, STORE, LOAD, LOAD, BACK))
        self.refuses(code, (self.thing, "table", 0))
        self.refuses(LEAST, (self.thing, "place", -1))


class TestCarried(TurnCase):
    code = code_of(block(STORE, LOAD, ("store", A1, 1), PERHAPS, ("load", "y", ANY_A), BACK))
    thing = ("carried", M[1], "new", M[0], table_of(code, CELL))

    def test_let_by(self):
        for shown in (None, (), (CELL,)):
            self.lets(self.code, self.thing, shown)
        self.same(lets_turning(self.code, None, self.thing)[1][0][1][0][0][:3], (("set", "new", "+", 7, 0), STORE, ("set", "x", "+", "new", 0)))

    def test_words_that_are_no_names_by_themselves(self):
        code = code_of(block(STORE, CALL, LOAD, BACK), sub=LEAF)
        for name in ("a", "b", "main", "sub", "store", "abcdefgh", "z"):
            self.lets(code, ("carried", M[2], name, M[0], table_of(code, CELL)))

    def test_place(self):
        for place in (*ODD_PLACES, M[0], M[2], M[3], M[5], M[6]):
            self.refuses(self.code, (changed(self.thing, place=place), "place", -1), (("carried", place, None, None, None), "place", -1))
        # A "load" of several CELLS.
        self.refuses(self.code, (changed(self.thing, place=M[4]), "place", -1))
        self.refuses(self.code, (changed(self.thing, place=("main", 0, True)), "place", -1))

    def test_store(self):
        for store in (*ODD_PLACES, M[1], M[4], M[5], M[6]):
            self.refuses(self.code, (changed(self.thing, store=store), "store", -1), (changed(self.thing, store=store, name=None, paper=None), "store", -1))
        # One of another CELL, and one of several.
        self.refuses(self.code, (changed(self.thing, store=M[2]), "store", -1), (changed(self.thing, store=M[3]), "store", -1))
        code = code_of(block(("tell", 1), STORE, LOAD, BACK))
        thing = carry(code, M[2])
        self.lets(code, thing)
        self.refuses(code, (changed(thing, store=("main", 0, True)), "store", -1), (changed(thing, store=["main", 0, 1]), "store", -1))

    def test_name(self):
        for name in (*STRANGE, "x", "y", "i", "abcdefghi", "New", "n1", ["new"], ("new",), 0, "x y"):
            self.refuses(self.code, (changed(self.thing, name=name), "name", -1), (changed(self.thing, name=name, paper=None), "name", -1))

    def test_table(self):
        table = self.thing[-1]
        for paper in (*STRANGE, list(table), (table,), (table[0][1:], table[1]), table_of(self.code, ("a", 1)), (table[0], (("main", ()),)), table_of(LEAST, CELL),
                      (exchanged(table[0], 1, (M[1], (), True)), table[1]), (exchanged(table[0], 1, (M[1], (M[0],), 0)), table[1])):
            self.refuses(self.code, (changed(self.thing, paper=paper), "table", -1))

    def test_source(self):
        self.refuses(self.code, (changed(self.thing, paper=fullest(self.code)), "source", -1))
        table = self.thing[-1]
        points = table[0]
        for made, passes in (((M[0],), True), ((M[0], M[2]), False), ((M[0], M[5]), False)):
            rows = tuple([(place, *(((made, passes)) if place == M[1] else (tuple(sorted({*old, *made})), True) if place[2] > 1 else (old, passed)))
                          for place, old, passed in points])
            self.refuses(self.code, (changed(self.thing, paper=(rows, table[1])), "source", -1))

    def test_another_source(self):
        for code in (code_of(block(PERHAPS, STORE, PERHAPS, LOAD, BACK)), code_of(block(("if", "x", 1, 2)), block(STORE, ("go", 2)), block(LOAD, BACK)),
                     code_of(block(STORE, ("if", "x", 1, 2)), block(STORE, ("go", 2)), block(LOAD, BACK)), code_of(block(LOAD, STORE, ("go", 0)))):
            load = [place for place in places_in(code) if code_row(code, place) == LOAD][0]
            for store in [place for place in places_in(code) if code_row(code, place) == STORE]:
                self.refuses(code, (("carried", load, "new", store, table_of(code, CELL)), "source", -1))

    def test_another_store_of_the_cell(self):
        code = code_of(block(STORE, STORE, LOAD, STORE, BACK))
        table = table_of(code, CELL)
        self.lets(code, ("carried", M[2], "new", M[1], table))
        for store in (M[0], M[3]):
            self.refuses(code, (("carried", M[2], "new", store, table), "source", -1))

    def test_a_load_that_has_no_source(self):
        code = code_of(block(STORE, BACK), block(LOAD, BACK))
        self.lets(code, ("carried", ("main", 1, 0), "new", M[0], table_of(code, CELL)))
        code = code_of(block(STORE, BACK), sub=(block(STORE, LOAD, BACK),))
        for store in (M[0], ("sub", 0, 0)):
            self.lets(code, ("carried", ("sub", 0, 1), "new", store, table_of(code, CELL)))

    def test_the_fault_is_kept(self):
        address = (("c",), "p", "i")
        code = code_of(block(("store", address, "x"), ("load", "y", address), BACK))
        thing = ("carried", M[1], "new", M[0], table_of(code, ("c", 0)))
        self.lets(code, thing)
        rows = (("set", "new", "+", "x", 0), ("store", address, "x"), ("touch", address), ("set", "y", "+", "new", 0))
        self.same(lets_turning(code, None, thing), code_of(block(*rows, BACK)))

    def test_the_first_of_several(self):
        self.refuses(self.code, (("carried", M[4], "x", M[1], None), "place", -1), (("carried", M[1], "x", M[1], None), "store", -1),
                     (("carried", M[1], "x", M[0], None), "name", -1), (("carried", M[1], "new", M[0], None), "table", -1))


def code_row(code, place):
    """The ROW or the END at a PLACE."""
    rows, end = dict(code[1])[place[0]][place[1]]
    return (*rows, end)[place[2]]


class TestAgain(TurnCase):
    code = code_of(block(("load", "y", A0), CALL, LOAD, ("load", "z", ANY_A), BACK), sub=(block(("tell", "y"), BACK),))
    thing = ("again", M[2], "y", hold_table(code, "y", CELL))

    def test_let_by(self):
        for shown in (None, (), (CELL,)):
            self.lets(self.code, self.thing, shown)
        self.same(code_row(lets_turning(self.code, None, self.thing), M[2]), ("set", "x", "+", "y", 0))

    def test_place(self):
        for place in (*ODD_PLACES, M[1], M[4], M[5], ("sub", 0, 0), ("sub", 0, 1)):
            self.refuses(self.code, (changed(self.thing, place=place), "place", -1), (("again", place, None, None), "place", -1))
        self.refuses(self.code, (changed(self.thing, place=M[3]), "place", -1))
        code = code_of(block(LOAD, LOAD, BACK))
        thing = reread(code, M[1])
        self.lets(code, thing)
        self.refuses(code, (changed(thing, place=("main", 0, True)), "place", -1))

    def test_name(self):
        for name in (*STRANGE, "new", "a", "main", "sub", "abcdefghi", ["y"], ("y",), 0):
            self.refuses(self.code, (changed(self.thing, name=name), "name", -1), (changed(self.thing, name=name, paper=None), "name", -1))

    def test_another_name(self):
        for name in ("x", "z", "i"):
            self.refuses(self.code, (changed(self.thing, name=name), "flow", M[0]))
            self.refuses(self.code, (changed(self.thing, name=name, paper=hold_table(self.code, name, CELL)), "holds", -1))

    def test_the_paper(self):
        points, begun = self.thing[-1]
        for paper in (None, (), [points, begun], (list(points), begun), True):
            self.refuses(self.code, (changed(self.thing, paper=paper), "shape", -1))
        call = ("main", 0, 1)
        self.refuses(self.code, (changed(self.thing, paper=(points[:-1], begun)), "point", 6), (changed(self.thing, paper=(exchanged(points, 2, (M[2], 1, True, True)), begun)), "point", 2),
                     (changed(self.thing, paper=(points, begun[:1])), "begin", 1), (changed(self.thing, paper=(points, (("main", False), ("sub", 1)))), "begin", 1),
                     (changed(self.thing, paper=(exchanged(points, 0, (M[0], True, True, True)), begun)), "first", M[0]),
                     (changed(self.thing, paper=(exchanged(points, 1, (call, False, True, True)), begun)), "flow", M[0]),
                     (changed(self.thing, paper=(points, (("main", True), ("sub", True)))), "main", -1),
                     (changed(self.thing, paper=(exchanged(exchanged(points, 1, (call, True, True, False)), 2, (M[2], True, True, False))[:3]
                                                 + ((M[3], True, True, False), (M[4], True, True, False)) + points[5:], begun)), "call", call))

    def test_of_another_cell(self):
        self.refuses(self.code, (changed(self.thing, paper=hold_table(self.code, "y", ("a", 1))), "holds", -1))

    def test_holds(self):
        points, begun = self.thing[-1]
        weak = (tuple([(place, True, False, False) for place in places_in(self.code)]), tuple([(name, False) for name in routines_of(self.code)]))
        self.refuses(self.code, (changed(self.thing, paper=weak), "holds", -1), (changed(self.thing, place=M[0]), "holds", -1))
        self.same(points[0], (M[0], True, True, False))
        # By begins of its routine it is kept or found that counts.
        code = code_of(block(BACK), sub=(block(LOAD, BACK),))
        place = ("sub", 0, 0)
        for begins, kept, found, lets in ((True, True, False, True), (True, False, True, False), (False, True, False, False), (False, False, True, True)):
            paper = (((M[0], True, False, False), (place, False, kept, found), (("sub", 0, 1), False, True, True)), (("main", False), ("sub", begins)))
            if lets:
                self.lets(code, ("again", place, "x", paper))
            else:
                self.refuses(code, (("again", place, "x", paper), "holds", -1))

    def test_the_first_of_several(self):
        self.refuses(self.code, (("again", M[3], "new", None), "place", -1), (("again", M[2], "new", None), "name", -1), (("again", M[0], "y", None), "shape", -1),
                     (("again", M[0], "y", (self.thing[-1][0], ())), "begin", 0))


class TestChain(Case):
    code = code_of(block(STORE, STORE, LOAD, ("load", "y", A0), ("tell", "y"), BACK))

    def refuses(self, *cases, code=None, shown=()):
        """Each case is (thing, word, at)."""
        for thing, word, at in cases:
            self.no_paper(word, at, lets_chain, code or self.code, shown, thing)

    def test_empty(self):
        for code in (LEAST, CODE, self.code):
            for shown in (None, (), cells_in(code)):
                self.same(self.untouched(lets_chain, code, shown, ()), code)

    def test_one_behind_another(self):
        code = code_of(block(LOAD, ("load", "y", A0), STORE, ("load", "z", A0), STORE, BACK))
        chain, newer = [], code
        for make, place in ((reread, M[1]), (carry, M[3])):
            chain.append(make(newer, place))
            newer = turned(newer, chain[-1])
            self.same(self.untouched(lets_chain, code, None, tuple(chain)), newer)
        self.same(newer, code_of(block(LOAD, ("set", "y", "+", "x", 0), ("set", chain[1][2], "+", 7, 0), STORE, ("set", "z", "+", chain[1][2], 0), STORE, BACK)))
        chain.append(leave(newer, M[3]))
        newer = turned(newer, chain[-1])
        self.same(lets_chain(code, None, tuple(chain)), newer)
        self.refuses(((chain[0], chain[2]), "turning", 1), ((chain[2],), "turning", 0), (tuple(chain[::-1]), "turning", 0),
                     ((chain[1], chain[0], chain[2]), "turning", 1), ((*chain, chain[0]), "turning", 3), ((chain[0], chain[0]), "turning", 1), code=code, shown=None)

    def test_shape(self):
        thing = leave(self.code, M[0])
        for other in (*[thing for thing in STRANGE if not isinstance(thing, tuple)], [thing], [], 0, "left"):
            self.refuses((other, "shape", -1))

    def test_turning(self):
        thing = leave(self.code, M[0])
        self.same(lets_chain(self.code, (), (thing,)), turned(self.code, thing))
        for other in (None, (), [], list(thing), ("left", M[2], thing[2]), ("left", M[1], thing[2]), True, "left"):
            self.refuses(((other,), "turning", 0), ((thing, other), "turning", 1), ((other, thing), "turning", 0), ((other, other), "turning", 0))
        self.refuses((thing, "turning", 0), (((),), "turning", 0), ((None,), "turning", 0))

    def test_shown(self):
        code = code_of(block(STORE, ("store", A1, 1), BACK))
        one = leave(code, M[0], ())
        newer = turned(code, one)
        two = leave(newer, M[0], ())
        self.same(lets_chain(code, (), (one, two)), code_of(block(BACK)))
        self.refuses(((one, two), "turning", 0), code=code, shown=None)
        self.refuses(((one, two), "turning", 0), code=code, shown=(CELL,))
        self.refuses(((one, two), "turning", 1), code=code, shown=(("a", 1),))

    def test_by_name(self):
        thing = leave(self.code, M[0])
        self.same(lets_turning(thing=thing, shown=None, code=self.code), turned(self.code, thing))
        self.same(lets_chain(thing=(thing,), shown=None, code=self.code), turned(self.code, thing))


if __name__ == "__main__":
    unittest.main()
