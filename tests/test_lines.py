"""[88]: ROWS, ENDS, CODE, STARTS, PLACES as texts."""

import copy
import unittest

from storeways.codes import places_in
from storeways.lines import shown_code, shown_place, shown_row, shown_start
from tests.samples import CODE, LEAST, Case

SURE = (("a",), 0, 0)


class TestRows(Case):
    def test_rows_of_the_document(self):
        self.same(shown_row(("load", "x", (("a",), 0, "i"))), "load x a:0:i")
        self.same(shown_row(("store", (("a", "b"), "p", 3), -7)), "store a,b:p:3 -7")
        self.same(shown_row(("set", "x", "+", "x", 1)), "set x + x 1")
        self.same(shown_row(("call", "sub")), "call sub")

    def test_each_sort_of_row(self):
        self.same(shown_row(("store", SURE, "y")), "store a:0:0 y")
        self.same(shown_row(("touch", (("a",), "p", "i"))), "touch a:p:i")
        self.same(shown_row(("touch", SURE)), "touch a:0:0")
        self.same(shown_row(("set", "x", "-", 0, "y")), "set x - 0 y")
        self.same(shown_row(("set", "x", "*", -1, -20)), "set x * -1 -20")
        self.same(shown_row(("set", "abcdefgh", "<", "y", "z")), "set abcdefgh < y z")
        self.same(shown_row(("tell", "x")), "tell x")
        self.same(shown_row(("tell", 0)), "tell 0")
        self.same(shown_row(("need", "x")), "need x")
        self.same(shown_row(("need", -1)), "need -1")

    def test_ends(self):
        self.same(shown_row(("go", 2)), "go 2")
        self.same(shown_row(("go", 0)), "go 0")
        self.same(shown_row(("if", "x", 0, 1)), "if x 0 1")
        self.same(shown_row(("if", -3, 10, 2)), "if -3 10 2")
        self.same(shown_row(("back",)), "back")

    def test_addresses_keep_the_order_of_their_objects(self):
        self.same(shown_row(("touch", (("b", "abcdefgh", "a"), 2, 10))), "touch b,abcdefgh,a:2:10")
        self.same(shown_row(("load", "x", (("b", "a"), "p", "i"))), "load x b,a:p:i")

    def test_numbers(self):
        for number, text in ((0, "0"), (1, "1"), (-1, "-1"), (10, "10"), (-10, "-10"), (907, "907"),
                             (10 ** 12 - 1, "9" * 12), (1 - 10 ** 12, "-" + "9" * 12), (10 ** 11, "1" + "0" * 11)):
            self.same(shown_row(("tell", number)), "tell " + text)

    def test_numbers_of_any_size(self):
        for many in (59, 60, 61, 119, 120, 121, 200, 4299, 4300, 4301, 9000):
            self.assertTrue(shown_row(("tell", 10 ** many)) == "tell 1" + "0" * many)
            self.assertTrue(shown_row(("tell", -10 ** many)) == "tell -1" + "0" * many)
            self.assertTrue(shown_row(("tell", 10 ** many - 1)) == "tell " + "9" * many)
            self.assertTrue(shown_row(("tell", 7 * 10 ** many + 305)) == "tell 7" + "305".zfill(many))
        for number in range(-300, 300):
            self.same(shown_row(("tell", number ** 41)), "tell " + str(number ** 41))

    def test_by_name(self):
        self.same(shown_row(row=("tell", 1)), "tell 1")


class TestCode(Case):
    def test_code(self):
        self.same(shown_code(CODE), "\n".join([
            "object a 3",
            "object b 2",
            "object c 1",
            "routine main",
            "load x a:0:i",
            "store a,b:p:1 -7",
            "touch c:q:q",
            "set y < x z",
            "if w 1 2",
            "call sub",
            "tell t",
            "need 0",
            "go 0",
            "back",
            "routine sub",
            "call sub",
            "store b,a:0:0 v",
            "if -3 0 1",
            "tell 1000000",
            "back",
        ]))

    def test_the_least_code(self):
        self.same(shown_code(LEAST), "object a 1\nroutine main\nback")

    def test_routines_ahead_of_main(self):
        one = (((), ("back",)),)
        self.same(shown_code(((("z", 10), ("zz", 123456789012)), (("b", one), ("main", one)))),
                  "object z 10\nobject zz 123456789012\nroutine b\nback\nroutine main\nback")

    def test_code_stays_as_it_was(self):
        kept = copy.deepcopy(CODE)
        self.same(shown_code(CODE), shown_code(CODE))
        self.same(CODE, kept)

    def test_by_name(self):
        self.same(shown_code(code=LEAST), "object a 1\nroutine main\nback")


class TestStarts(Case):
    def test_the_empty_one(self):
        self.same(shown_start(((), ())), "-")

    def test_names(self):
        self.same(shown_start(((("x", 0),), ())), "x=0")
        self.same(shown_start(((("abcdefgh", 12), ("b", -1)), ())), "abcdefgh=12 b=-1")

    def test_cells(self):
        self.same(shown_start(((), ((("a", 0), 5),))), "a:0=5")
        self.same(shown_start(((), ((("a", 0), 0), (("a", 10), -7), (("b", 1), 10 ** 9)))), "a:0=0 a:10=-7 b:1=1000000000")

    def test_names_ahead_of_cells(self):
        self.same(shown_start(((("x", 3), ("y", -4)), ((("a", 0), 5), (("b", 1), 6)))), "x=3 y=-4 a:0=5 b:1=6")

    def test_numbers_of_any_size(self):
        self.assertTrue(shown_start(((), ((("a", 0), 10 ** 5000),))) == "a:0=1" + "0" * 5000)
        self.assertTrue(shown_start(((("x", -10 ** 5000),), ())) == "x=-1" + "0" * 5000)

    def test_by_name(self):
        self.same(shown_start(start=((), ())), "-")


class TestPlaces(Case):
    def test_places(self):
        self.same(shown_place(("main", 0, 2)), "main:0:2")
        self.same(shown_place(("abcdefgh", 10, 0)), "abcdefgh:10:0")

    def test_all_are_unlike(self):
        texts = [shown_place(place) for place in places_in(CODE)]
        self.assertEqual(len(set(texts)), len(texts))

    def test_by_name(self):
        self.same(shown_place(place=("sub", 1, 1)), "sub:1:1")


if __name__ == "__main__":
    unittest.main()
