"""[69]: CODE TURNED, whatever the paper is."""

import unittest

from storeways.codes import is_code, names_in, places_in, row_at
from storeways.faces import can_fault
from storeways.running import run
from storeways.turnings import turned
from tests.samples import (
    BACK, CODE, M, MAIN, OBJECTS, STRANGE, SUB, Case, block, code_of, exchanged, some_code, some_start,
)

SURE = (("a",), 0, 1)
ONE_CELL = (("c",), "p", 0)
FREE = (("a", "b"), 0, "i")
PICKED = (("a", "b"), "p", 0)


class TurnCase(Case):
    def turns(self, turning, code, want):
        """The CODE comes to be this one, which is CODE, too."""
        self.same(self.untouched(turned, code, turning), want)
        self.assertTrue(is_code(want))

    def row_turns(self, turning, rows, want):
        """Main of these ROWS comes to be main of those."""
        sub = (block(("store", SURE, 1), BACK),)
        self.turns(turning, code_of(block(*rows, BACK), sub=sub), code_of(block(*want, BACK), sub=sub))


class TestLeft(TurnCase):
    def test_an_address_that_can_not_fault(self):
        for operand in (5, -5, "x"):
            self.row_turns(("left", M[1], None), (("tell", 1), ("store", SURE, operand), ("tell", 2)), (("tell", 1), ("tell", 2)))
        self.row_turns(("left", M[0], None), (("store", (("a", "b"), 1, 0), 1),), ())

    def test_an_address_that_can_fault(self):
        for address in (FREE, PICKED, ONE_CELL, (("c",), 0, "x"), (("a", "b"), "p", "p")):
            self.row_turns(("left", M[1], None), (("tell", 1), ("store", address, "x"), ("tell", 2)),
                           (("tell", 1), ("touch", address), ("tell", 2)))

    def test_one_of_several_alike(self):
        rows = (("store", SURE, 1), ("store", SURE, 1), ("store", FREE, 1), ("store", FREE, 1))
        self.row_turns(("left", M[0], None), rows, rows[1:])
        self.row_turns(("left", M[1], None), rows, rows[1:])
        self.row_turns(("left", M[2], None), rows, exchanged(rows, 2, ("touch", FREE)))
        self.row_turns(("left", M[3], None), rows, exchanged(rows, 3, ("touch", FREE)))

    def test_in_another_block_and_routine(self):
        self.turns(("left", ("sub", 0, 1), ()), CODE,
                   (OBJECTS, (("main", MAIN), ("sub", exchanged(SUB, 0, ((("call", "sub"),), SUB[0][1]))))))
        self.turns(("left", M[1], ()), CODE,
                   (OBJECTS, (("main", exchanged(MAIN, 0, (exchanged(MAIN[0][0], 1, ("touch", (("a", "b"), "p", 1))), MAIN[0][1]))), ("sub", SUB))))


class TestCarried(TurnCase):
    def test_the_load_behind_the_store(self):
        for operand in (5, -5, 0, "x", "y"):
            self.row_turns(("carried", M[2], "new", M[0], None), (("store", SURE, operand), ("tell", 1), ("load", "y", SURE), ("tell", 2)),
                           (("set", "new", "+", operand, 0), ("store", SURE, operand), ("tell", 1), ("set", "y", "+", "new", 0), ("tell", 2)))

    def test_the_load_ahead_of_the_store(self):
        self.row_turns(("carried", M[0], "new", M[1], None), (("load", "y", SURE), ("store", SURE, "x"), ("tell", 2)),
                       (("set", "y", "+", "new", 0), ("set", "new", "+", "x", 0), ("store", SURE, "x"), ("tell", 2)))

    def test_a_load_that_can_fault(self):
        for address in (ONE_CELL, (("c",), 0, "x")):
            store = ("store", (("c",), 0, 0), 3)
            self.row_turns(("carried", M[1], "new", M[0], None), (store, ("load", "y", address), ("tell", 2)),
                           (("set", "new", "+", 3, 0), store, ("touch", address), ("set", "y", "+", "new", 0), ("tell", 2)))
            self.row_turns(("carried", M[0], "new", M[1], None), (("load", "y", address), store, ("tell", 2)),
                           (("touch", address), ("set", "y", "+", "new", 0), ("set", "new", "+", 3, 0), store, ("tell", 2)))

    def test_a_store_that_can_fault_stays_as_it_is(self):
        store = ("store", ONE_CELL, "p")
        self.row_turns(("carried", M[1], "new", M[0], None), (store, ("load", "y", (("c",), 0, 0))),
                       (("set", "new", "+", "p", 0), store, ("set", "y", "+", "new", 0)))

    def test_in_unlike_blocks_and_routines(self):
        sub = (block(("go", 1)), block(("tell", 1), ("store", SURE, 7), BACK))
        code = code_of(block(("call", "sub"), ("go", 1)), block(("load", "x", SURE), ("load", "x", SURE), BACK), sub=sub)
        want = code_of(block(("call", "sub"), ("go", 1)), block(("load", "x", SURE), ("set", "x", "+", "new", 0), BACK),
                       sub=exchanged(sub, 1, block(("tell", 1), ("set", "new", "+", 7, 0), ("store", SURE, 7), BACK)))
        self.turns(("carried", ("main", 1, 1), "new", ("sub", 1, 1), None), code, want)

    def test_a_load_by_the_name_that_carries(self):
        self.row_turns(("carried", M[1], "new", M[0], None), (("store", SURE, "new"), ("load", "new", SURE)),
                       (("set", "new", "+", "new", 0), ("store", SURE, "new"), ("set", "new", "+", "new", 0)))


class TestAgain(TurnCase):
    def test_the_load_alone_gives_place(self):
        rows = (("load", "x", SURE), ("tell", 1), ("load", "y", SURE), ("store", SURE, 4))
        self.row_turns(("again", M[2], "x", None), rows, exchanged(rows, 2, ("set", "y", "+", "x", 0)))
        self.row_turns(("again", M[0], "y", None), rows, exchanged(rows, 0, ("set", "x", "+", "y", 0)))

    def test_an_address_that_can_fault(self):
        for address in (ONE_CELL, FREE, PICKED):
            self.row_turns(("again", M[1], "x", None), (("load", "x", address), ("load", "y", address), ("tell", 1)),
                           (("load", "x", address), ("touch", address), ("set", "y", "+", "x", 0), ("tell", 1)))

    def test_the_same_name(self):
        self.row_turns(("again", M[1], "x", None), (("load", "x", SURE), ("load", "x", SURE)), (("load", "x", SURE), ("set", "x", "+", "x", 0)))

    def test_in_a_routine(self):
        code = code_of(block(("call", "sub"), BACK), block(BACK), sub=(block(("go", 1)), block(("load", "x", SURE), ("go", 0))))
        self.turns(("again", ("sub", 1, 0), "z", None), code, (OBJECTS, exchanged(code[1], 1, ("sub", (
            block(("go", 1)), block(("set", "x", "+", "z", 0), ("go", 0)))))))


class TestAll(TurnCase):
    def test_the_paper_is_not_looked_at(self):
        code = code_of(block(("store", SURE, 1), ("load", "x", SURE), BACK))
        for ahead in (("left", M[0]), ("carried", M[1], "new", M[0]), ("again", M[1], "x")):
            want = turned(code, ahead + (None,))
            for paper in (*STRANGE, 0, ((), ()), [[1], ["a"]]):
                self.same(self.untouched(turned, code, ahead + (paper,)), want)

    def test_by_name(self):
        code = code_of(block(("store", SURE, 1), BACK))
        self.same(turned(code=code, turning=("left", M[0], None)), code_of(block(BACK)))
        self.same(turned(turning=("left", M[0], None), code=code), code_of(block(BACK)))

    def test_all_places_of_some_code(self):
        for seed in range(60):
            code = some_code(seed)
            for place in places_in(code):
                row = row_at(code, place)
                if row[0] == "load":
                    self.again(code, place, row)
                elif row[0] == "store":
                    self.left(code, place, row)

    def block_turned(self, code, newer, place):
        """All ROWS of the place's block ahead and behind, where nothing else is otherwise."""
        name, number, at = place
        for (word, blocks), (again, others) in zip(code[1], newer[1]):
            self.same(again, word)
            for k, (one, other) in enumerate(zip(blocks, others, strict=True)):
                self.same(other[1], one[1])
                if (word, k) != (name, number):
                    self.same(other, one)
                else:
                    rows, turned_ones = one[0], other[0]
        behind = len(rows) - at - 1
        self.same(turned_ones[:at], rows[:at])
        self.same(turned_ones[len(turned_ones) - behind:], rows[at + 1:])
        return turned_ones[at:len(turned_ones) - behind]

    def left(self, code, place, row):
        newer = turned(code, ("left", place, None))
        self.same(self.block_turned(code, newer, place), (("touch", row[1]),) if can_fault(row[1]) else ())
        self.assertTrue(is_code(newer))
        for fuel in (1, 20):
            # A FAULT stays where it was, and nothing enters a block more or less; what is read may be otherwise.
            if "load" not in [row_at(code, other)[0] for other in places_in(code)]:
                self.same(run(newer, some_start(3), fuel)[:2], run(code, some_start(3), fuel)[:2])

    def again(self, code, place, row):
        newer = turned(code, ("again", place, "held", None))
        touch = (("touch", row[2]),) if can_fault(row[2]) else ()
        self.same(self.block_turned(code, newer, place), touch + (("set", row[1], "+", "held", 0),))
        self.assertIn("held", names_in(newer))


if __name__ == "__main__":
    unittest.main()
