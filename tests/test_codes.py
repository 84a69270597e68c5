"""[12], [13], [22]: CODE, its ROWS, ENDS, routines, NAMES and PLACES, by [3]."""

import copy
import unittest

from storeways.codes import (blocks_of, is_code, is_end, is_place, is_row, names_in, places_in, routines_of, row_at)
from storeways.errors import NoPlace, NoRoutine
from storeways.faces import cells_in
from storeways.operands import is_start
from tests.samples import BACK, CODE, LEAST, MAIN, OBJECTS, STRANGE, SUB, Case, exchanged, with_main, with_row

SURE = (("a",), 0, 1)
FREE = (("b", "a"), "p", "i")

NO_NAMES = (0, 1, True, None, "", "A", "abcdefghi", "a1", (), ("x",), ["x"])
NO_OPERANDS = (True, False, None, "", "A", "abcdefghi", "+", (), (0,), ["x"], SURE)
NO_ADDRESSES = (0, None, "a", (), ("a",), (("a",), 0), (("a",), 0, 3), (("d",), 0, 0), (("a", "a"), 0, 0),
                (("a",), True, 0), (["a"], 0, 0), [("a",), 0, 0], (("a",), 0, 0, 0))
NO_SIGNS = ("", "/", "+-", "a", ">", "=", "<=", 0, True, None, (), ("+",), ["+"])
NO_ROUTINES = ("main", "none", "a", "", "SUB", 0, None, True, (), ("sub",), ["sub"], SUB)

ROWS = (
    ("load", "x", SURE), ("load", "abcdefgh", FREE), ("load", "a", (("c",), "x", "x")),
    ("store", SURE, -7), ("store", FREE, "x"), ("store", SURE, 10 ** 199), ("store", FREE, 0),
    ("touch", SURE), ("touch", FREE),
    ("set", "x", "+", "x", 1), ("set", "x", "-", -1, "y"), ("set", "x", "*", 0, 0), ("set", "x", "<", "x", "x"),
    ("tell", "x"), ("tell", 0), ("tell", -10 ** 199),
    ("need", "x"), ("need", 0), ("need", -1),
    ("call", "sub"),
)
ENDS = (
    ("go", 0), ("go", 1), ("go", 2), ("if", "x", 0, 0), ("if", 0, 1, 2), ("if", -1, 2, 0), ("if", 10 ** 199, 2, 2), BACK,
)

# For each sort of ROW, what can't stand at each of its places.
WRONG_IN_ROWS = {
    ("load", "x", SURE): (NO_NAMES, NO_ADDRESSES),
    ("store", SURE, "x"): (NO_ADDRESSES, NO_OPERANDS),
    ("touch", SURE): (NO_ADDRESSES,),
    ("set", "x", "+", 1, "y"): (NO_NAMES, NO_SIGNS, NO_OPERANDS, NO_OPERANDS),
    ("tell", "x"): (NO_OPERANDS,),
    ("need", "x"): (NO_OPERANDS,),
    ("call", "sub"): (NO_ROUTINES,),
}
NO_BLOCKS = (3, 4, 10 ** 199, -1, -3, True, False, None, "x", "0", (), (0,), [0])
WRONG_IN_ENDS = {
    ("go", 1): (NO_BLOCKS,),
    ("if", "x", 1, 2): (NO_OPERANDS, NO_BLOCKS, NO_BLOCKS),
    BACK: (),
}


def misshaped(row):
    """A ROW or an END with one thing too few or too many, a list, and with other words ahead."""
    things = [row[:-1], row + (0,), row + ("x",), row + (row[-1],), list(row), (row,), row[1:], row[::-1] + ("",)]
    for word in ("", "Load", "LOAD", "loads", "loa", "jump", None, True, 0, (), ["load"], ("load",), ["go"], ["back"]):
        things.append((word,) + row[1:])
    return things


def wrong(table):
    """All that comes of the right ones by one thing that can't stand where it is put, and misshaped ones."""
    things = list(STRANGE)
    for row in table:
        things.extend(misshaped(row))
        for at, others in enumerate(table[row]):
            things.extend([exchanged(row, at + 1, other) for other in others])
    return things


class TestRows(Case):
    def test_rows(self):
        self.all_told(is_row, True, *[(CODE, row) for row in ROWS])

    def test_one_thing_out(self):
        for thing in wrong(WRONG_IN_ROWS):
            self.all_told(is_row, False, (CODE, thing))

    def test_words_for_one_another(self):
        rows = list(WRONG_IN_ROWS)
        for row in rows:
            for other in rows:
                right = {row[0], other[0]} <= {"tell", "need"} or row == other or (row[0], other[0]) in (
                    ("tell", "call"), ("need", "call"))
                self.all_told(is_row, right, (CODE, (row[0],) + other[1:]))

    def test_ends_are_no_rows(self):
        self.all_told(is_row, False, *[(CODE, end) for end in ENDS])

    def test_calls_hang_on_the_code(self):
        self.all_told(is_row, False, (LEAST, ("call", "sub")), (LEAST, ("call", "main")), (CODE, ("call", "main")))

    def test_calls_of_routines_ahead_of_main(self):
        one = (((), BACK),)
        code = (OBJECTS, (("a", one), ("ma", one), ("main", one), ("mainz", one)))
        self.all_told(is_row, True, (code, ("call", "a")), (code, ("call", "ma")), (code, ("call", "mainz")))
        self.all_told(is_row, False, (code, ("call", "main")), (code, ("call", "b")), (code, ("call", "sub")))

    def test_addresses_hang_on_the_code(self):
        self.all_told(is_row, False, (LEAST, ("touch", (("b",), 0, 0))), (LEAST, ("touch", (("a",), 0, 1))))
        self.all_told(is_row, True, (LEAST, ("touch", (("a",), 0, 0))))

    def test_by_name(self):
        self.assertIs(is_row(code=CODE, thing=("tell", 0)), True)
        self.assertIs(is_row(thing=("tell", None), code=CODE), False)


class TestEnds(Case):
    def test_ends(self):
        self.all_told(is_end, True, *[(CODE, "main", end) for end in ENDS])

    def test_one_thing_out(self):
        for thing in wrong(WRONG_IN_ENDS):
            if thing != BACK:
                self.all_told(is_end, False, (CODE, "main", thing))

    def test_it_hangs_on_the_routine(self):
        self.all_told(is_end, True, (CODE, "sub", ("go", 1)), (CODE, "sub", ("if", 0, 0, 1)), (CODE, "sub", BACK))
        self.all_told(is_end, False, (CODE, "sub", ("go", 2)), (CODE, "sub", ("if", 0, 2, 1)),
                      (CODE, "sub", ("if", 0, 1, 2)))
        self.all_told(is_end, True, (LEAST, "main", ("go", 0)), (LEAST, "main", ("if", 1, 0, 0)))
        self.all_told(is_end, False, (LEAST, "main", ("go", 1)), (LEAST, "main", ("if", 1, 0, 1)))

    def test_rows_are_no_ends(self):
        self.all_told(is_end, False, *[(CODE, "main", row) for row in ROWS])

    def test_by_name(self):
        self.assertIs(is_end(code=CODE, name="main", thing=("go", 2)), True)
        self.assertIs(is_end(thing=("go", 2), name="sub", code=CODE), False)


class TestCode(Case):
    def told(self, want, *things):
        self.all_told(is_code, want, *[(thing,) for thing in things])

    def test_code(self):
        self.told(True, CODE, LEAST)

    def test_each_row(self):
        self.told(True, *[with_row(row) for row in ROWS])
        self.told(False, *[with_row(thing) for thing in wrong(WRONG_IN_ROWS)])

    def test_each_end(self):
        for end in ENDS:
            self.told(True, with_main(((), end), ((), BACK), ((), BACK)), with_main(((), BACK), ((), BACK), ((), end)))
        for thing in wrong(WRONG_IN_ENDS):
            if thing != BACK:
                self.told(False, with_main(((), thing), ((), BACK), ((), BACK)))

    def test_rows_and_ends_keep_to_their_places(self):
        self.told(False, *[with_row(end) for end in ENDS])
        self.told(False, *[with_main(((), row)) for row in ROWS])

    def test_each_row_is_looked_at(self):
        good, bad = ("tell", 0), ("tell", True)
        for rows in ((bad, good, good), (good, bad, good), (good, good, bad)):
            self.told(False, with_main((rows, BACK)), with_main(((), BACK), (rows, BACK), ((), BACK)))

    def test_each_block_and_routine_is_looked_at(self):
        self.told(False, with_main(((), BACK), ((), ("go", 2))), with_main(((), ("go", 2)), ((), BACK)))
        for at in (0, 1):
            name, blocks = CODE[1][at]
            for block in range(len(blocks)):
                broken = exchanged(blocks, block, (blocks[block][0], ("go", len(blocks))))
                self.told(False, (OBJECTS, exchanged(CODE[1], at, (name, broken))))

    def test_ends_hang_on_their_own_routine(self):
        long = (((), ("go", 2)), ((), BACK), ((), BACK))
        short = (((), ("go", 2)), ((), BACK))
        least = OBJECTS
        self.told(True, (least, (("main", long), ("sub", ((((), BACK)),)))))
        self.told(False, (least, (("main", long), ("sub", short))), (least, (("main", short), ("sub", long))))

    def test_main_is_there(self):
        self.told(False, (OBJECTS, ()), (OBJECTS, (("sub", SUB),)), (OBJECTS, (("mains", SUB),)), (OBJECTS, (("a", SUB),)))

    def test_routines_rise_and_are_unlike(self):
        one = (((), BACK),)
        self.told(True, (OBJECTS, (("a", one), ("main", one), ("mainz", one))))
        self.told(False, (OBJECTS, (("sub", SUB), ("main", MAIN))), (OBJECTS, (("main", one), ("main", one))),
                  (OBJECTS, (("main", one), ("a", one))),
                  (OBJECTS, (("main", one), ("main", (((), ("go", 0)),)))), (OBJECTS, (("main", MAIN), ("sub", SUB), ("sub", SUB))))

    def test_routines_of_other_kinds(self):
        one = (((), BACK),)
        self.told(False, *[(OBJECTS, (("main", one), (thing, one))) for thing in (*STRANGE, 0, "z1", "zzzzzzzzz")])
        self.told(False, *[(OBJECTS, thing) for thing in (*STRANGE, 0, "main", [("main", one)], (["main", one],),
                                                          (("main",),), (("main", one, one),), (("main", one), None))])

    def test_calls(self):
        calls = ((("call", "sub"),), BACK)
        self.told(True, (OBJECTS, (("main", (calls,)), ("sub", (calls,)))))
        self.told(True, (OBJECTS, (("main", (calls,)), ("sub", (((("call", "tub"),), BACK),)), ("tub", (calls,)))))
        ahead = ((("call", "a"),), BACK)
        self.told(True, (OBJECTS, (("a", (ahead,)), ("main", (ahead,)))))
        self.told(False, (OBJECTS, (("main", (calls,)),)), (OBJECTS, (("main", (calls,)), ("tub", (((), BACK),)))))
        back = ((("call", "main"),), BACK)
        self.told(False, (OBJECTS, (("main", (back,)),)), (OBJECTS, (("main", (calls,)), ("sub", (back,)))))

    def test_a_routine_has_a_block(self):
        self.told(False, (OBJECTS, (("main", ()),)), (OBJECTS, (("main", MAIN), ("sub", ()))),
                  (OBJECTS, (("main", (((), BACK),)), ("none", ()))))

    def test_blocks_of_other_kinds(self):
        self.told(False, with_main([]), with_main(None), with_main(()), with_main(((),)), with_main((BACK,)),
                  with_main(([], BACK)), with_main([(), BACK]), with_main(((), BACK, ())), with_main((None, BACK)),
                  with_main((("tell", 0), BACK)), with_main(([("tell", 0)], BACK)), with_main(((["tell", 0],), BACK)),
                  with_main(((), ["back"])), with_main(((), ())), with_main(((), None)), with_main(((), BACK), None),
                  with_main(("", BACK)))
        self.told(False, (OBJECTS, (("main", [((), BACK)]),)), (OBJECTS, (("main", ((), BACK)),)),
                  (OBJECTS, (("main", None),)), (OBJECTS, (("main", "ab"),)))

    def test_objects_are_objects(self):
        rest = LEAST[1]
        self.told(False, ((), rest), ([("a", 1)], rest), ((("a", 0),), rest), ((("a", True),), rest),
                  ((("b", 1), ("a", 1)), rest), ((("a", 1), ("a", 2)), rest), (None, rest), ((("A", 1),), rest))

    def test_objects_and_routines_may_be_called_alike(self):
        self.told(True, ((("main", 1), ("x", 1)), (("main", (((("load", "x", (("main",), "main", "x")),), BACK),)),)))

    def test_shape(self):
        self.told(False, *STRANGE, 0, 1, "code", CODE[:1], CODE + ((),), list(CODE), (CODE,), CODE[::-1],
                  (list(CODE[0]), CODE[1]), (CODE[0], list(CODE[1])))

    def test_no_bounds(self):
        names = [chr(97 + k) * 3 for k in range(20)]
        rows = tuple([("set", name, "+", 10 ** 199, -10 ** 199) for name in names])
        blocks = tuple([(rows, ("go", k)) for k in range(30)])
        objects = tuple([(name, 10 ** 199) for name in names])
        routines = tuple([(name, blocks) for name in sorted([*names, "main"])])
        self.told(True, (objects, routines), (objects, (("main", blocks),)), (OBJECTS, routines))

    def test_by_name(self):
        self.assertIs(is_code(thing=CODE), True)
        self.assertIs(is_code(thing=None), False)


class TestWhatStandsInCode(Case):
    def test_routines(self):
        self.same(routines_of(CODE), ("main", "sub"))
        self.same(routines_of(LEAST), ("main",))
        one = (((), BACK),)
        self.same(routines_of((OBJECTS, (("a", one), ("b", one), ("main", one)))), ("a", "b", "main"))
        self.same(routines_of(code=LEAST), ("main",))

    def test_names(self):
        self.same(names_in(CODE), ("i", "p", "q", "t", "v", "w", "x", "y", "z"))
        self.same(names_in(code=LEAST), ())

    def test_names_of_each_row(self):
        for row, names in (
            (("load", "x", SURE), ("x",)),
            (("load", "x", (("b", "a"), "p", "i")), ("i", "p", "x")),
            (("load", "x", (("c",), "x", "x")), ("x",)),
            (("store", SURE, 1), ()),
            (("store", SURE, "x"), ("x",)),
            (("store", (("b", "a"), "p", 0), -1), ("p",)),
            (("store", (("b", "a"), 0, "i"), "a"), ("a", "i")),
            (("touch", SURE), ()),
            (("touch", (("b", "a"), "p", "i")), ("i", "p")),
            (("set", "x", "+", 1, 2), ("x",)),
            (("set", "x", "<", "z", "y"), ("x", "y", "z")),
            (("set", "x", "-", 1, "y"), ("x", "y")),
            (("set", "x", "*", "y", 1), ("x", "y")),
            (("tell", "x"), ("x",)),
            (("tell", 0), ()),
            (("need", "x"), ("x",)),
            (("need", 1), ()),
            (("call", "sub"), ()),
        ):
            with self.subTest(row=row):
                self.same(names_in((OBJECTS, (("main", (((row,), BACK),)), ("sub", (((), BACK),))))), names)

    def test_names_of_each_end(self):
        for end, names in ((("go", 0), ()), (("if", "x", 0, 0), ("x",)), (("if", 1, 0, 0), ()), (BACK, ())):
            self.same(names_in((OBJECTS, (("main", (((), end),)),))), names)

    def test_words_of_objects_and_routines_are_no_names_by_themselves(self):
        self.same(names_in((OBJECTS, (("main", (((("call", "sub"), ("tell", "sub"), ("tell", "b")), BACK),)),
                                      ("sub", (((), BACK),))))), ("b", "sub"))

    def test_names_of_all_blocks_and_routines_once(self):
        tells = ((("tell", "c"), ("tell", "b")), ("if", "a", 0, 0))
        more = ((("tell", "b"), ("tell", "d")), BACK)
        self.same(names_in((OBJECTS, (("main", (tells, more)), ("sub", (more, ((("tell", "e"),), BACK)))))),
                  ("a", "b", "c", "d", "e"))

    def test_places(self):
        self.same(places_in(CODE), (
            ("main", 0, 0), ("main", 0, 1), ("main", 0, 2), ("main", 0, 3), ("main", 0, 4),
            ("main", 1, 0), ("main", 1, 1), ("main", 1, 2), ("main", 1, 3), ("main", 2, 0),
            ("sub", 0, 0), ("sub", 0, 1), ("sub", 0, 2), ("sub", 1, 0), ("sub", 1, 1)))
        self.same(places_in(code=LEAST), (("main", 0, 0),))

    def test_places_rise_beyond_ten(self):
        code = (OBJECTS, (("main", tuple([((("tell", 0),) * 11, BACK)] * 12)),))
        self.same(places_in(code), tuple([("main", block, row) for block in range(12) for row in range(12)]))

    def test_blocks(self):
        self.same(blocks_of(CODE, "main"), MAIN)
        self.same(blocks_of(CODE, "sub"), SUB)
        self.same(blocks_of(code=CODE, name="sub"), SUB)

    def test_blocks_of_no_routine(self):
        for thing in (*STRANGE, 0, 1, "none", "a", "mai", ("main",), ["main"], [], ("sub", SUB), ("main", 0, 0)):
            kept = copy.deepcopy(thing)
            self.refused(NoRoutine, {"name": thing}, blocks_of, CODE, thing)
            self.same(thing, kept)
        self.refused(NoRoutine, {"name": "sub"}, blocks_of, name="sub", code=LEAST)


class TestPlaces(Case):
    wrong = (
        ("main", 0, 5), ("main", 0, 6), ("main", 1, 4), ("main", 2, 1), ("main", 3, 0), ("main", 4, 0), ("sub", 2, 0),
        ("sub", 0, 3), ("main", -1, 0), ("main", 0, -1), ("main", -3, 0), ("main", 0, -5), ("main", 10 ** 199, 0),
        ("main", 0, 10 ** 199), ("none", 0, 0), ("", 0, 0), ("Main", 0, 0), ("a", 0, 0), (None, 0, 0), (0, 0, 0),
        (["main"], 0, 0), (("main",), 0, 0), ("main", True, 0), ("main", 0, True), ("main", False, 0),
        ("main", 0, False), ("main", None, 0), ("main", 0, None), ("main", "0", 0), ("main", 0, "0"), ("main", "x", 0), ("main", 0, "x"), ("main", (0,), 0),
        ("main", 0, [0]), ["main", 0, 0], ("main",), ("main", 0), ("main", 0, 0, 0), (("main", 0, 0),), "main", "main:0:0",
        0, *STRANGE,
    )

    def test_places(self):
        self.all_told(is_place, True, *[(CODE, place) for place in places_in(CODE)])
        self.all_told(is_place, True, (LEAST, ("main", 0, 0)))

    def test_no_places(self):
        self.all_told(is_place, False, *[(CODE, thing) for thing in self.wrong])
        self.all_told(is_place, False, (LEAST, ("main", 0, 1)), (LEAST, ("main", 1, 0)), (LEAST, ("sub", 0, 0)))

    def test_place_by_name(self):
        self.assertIs(is_place(code=CODE, thing=("main", 0, 4)), True)
        self.assertIs(is_place(thing=("main", 0, 5), code=CODE), False)

    def test_rows(self):
        self.same(row_at(CODE, ("main", 0, 0)), ("load", "x", (("a",), 0, "i")))
        self.same(row_at(CODE, ("main", 0, 3)), ("set", "y", "<", "x", "z"))
        self.same(row_at(CODE, ("main", 1, 1)), ("tell", "t"))
        self.same(row_at(CODE, ("sub", 0, 1)), ("store", (("b", "a"), 0, 0), "v"))
        self.same(row_at(code=CODE, place=("sub", 1, 0)), ("tell", 10 ** 6))

    def test_ends(self):
        self.same(row_at(CODE, ("main", 0, 4)), ("if", "w", 1, 2))
        self.same(row_at(CODE, ("main", 1, 3)), ("go", 0))
        self.same(row_at(CODE, ("main", 2, 0)), BACK)
        self.same(row_at(CODE, ("sub", 1, 1)), BACK)

    def test_all_in_order(self):
        want = [row for name, blocks in CODE[1] for rows, end in blocks for row in (*rows, end)]
        self.same([row_at(CODE, place) for place in places_in(CODE)], want)

    def test_nothing_at_no_place(self):
        for thing in self.wrong:
            kept = copy.deepcopy(thing)
            self.refused(NoPlace, {"place": thing}, row_at, CODE, thing)
            self.same(thing, kept)
        self.refused(NoPlace, {"place": "main"}, row_at, place="main", code=LEAST)


class TestHandedInAgain(Case):
    """[22]: what was told is right where it is handed in."""

    def test_rows_and_ends(self):
        for place in places_in(CODE):
            name, block, row = place
            thing = row_at(CODE, place)
            at_end = row == len(blocks_of(CODE, name)[block][0])
            self.all_told(is_row, not at_end, (CODE, thing))
            self.all_told(is_end, at_end, (CODE, name, thing))

    def test_blocks_and_routines(self):
        again = tuple([(name, blocks_of(CODE, name)) for name in routines_of(CODE)])
        self.all_told(is_code, True, ((CODE[0], again),))
        self.same((CODE[0], again), CODE)

    def test_cells_and_names(self):
        start = (tuple([(name, 1) for name in names_in(CODE)]), tuple([(cell, 1) for cell in cells_in(CODE)]))
        self.all_told(is_start, True, (CODE, start))

    def test_beyond_the_bounds(self):
        code = ((("a", 9),), (("main", tuple([((("touch", (("a",), 0, k)),) * 12, ("go", k)) for k in range(9)])),))
        self.all_told(is_code, True, (code,))
        for place in places_in(code):
            self.all_told(is_place, True, (code, place))
            self.assertTrue(is_row(code, row_at(code, place)) or is_end(code, "main", row_at(code, place)))

    def test_code_stays_as_it_was(self):
        kept = copy.deepcopy(CODE)
        for function in (is_code, routines_of, names_in, places_in, cells_in):
            function(CODE)
            function(CODE)
        self.same(CODE, kept)


if __name__ == "__main__":
    unittest.main()
