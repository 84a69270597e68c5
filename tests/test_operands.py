"""[25], [26]: STARTS, the WORTH of OPERANDS, the CELL of an ADDRESS by names, by [4]."""

import copy
import unittest

from storeways.faces import cells_in
from storeways.operands import cell_by, is_start, worth
from tests.samples import CODE, LEAST, STRANGE, Case

FAR = 10 ** 200 - 1
NAMES = (("i", 1), ("p", -1), ("x", 2))


class TestStarts(Case):
    def told(self, want, *things):
        self.all_told(is_start, want, *[(CODE, thing) for thing in things])

    def test_starts(self):
        self.told(True, ((), ()), ((("x", 0),), ()), ((), ((("a", 0), 0),)),
                  ((("a", 1), ("aa", -1), ("b", 0)), ((("a", 0), 5), (("a", 2), -5), (("b", 1), 0), (("c", 0), 1))))

    def test_names_are_any(self):
        self.told(True, ((("unheard", 1),), ()), ((("main", 1),), ()), ((("a", 1), ("abcdefgh", 1)), ()))

    def test_no_bounds(self):
        names = tuple([("k" + chr(97 + k), FAR) for k in range(26)])
        self.told(True, (names, tuple([(cell, -FAR) for cell in cells_in(CODE)])))
        wide = ((("a", 10 ** 199),), LEAST[1])
        self.all_told(is_start, True, (wide, ((), ((("a", 10 ** 198), FAR),))))

    def test_none_and_the_empty_one(self):
        self.told(False, None, (), ((),), ((), (), ()), (None, None), (None, ()), ((), None))
        self.told(True, ((), ()))

    def test_names_rise_and_are_unlike(self):
        self.told(False, ((("b", 1), ("a", 1)), ()), ((("a", 1), ("a", 1)), ()), ((("a", 1), ("a", 2)), ()),
                  ((("a", 2), ("a", 1)), ()), ((("a", 1), ("c", 1), ("b", 1)), ()))

    def test_cells_rise_and_are_unlike(self):
        one, two, three = ("a", 0), ("a", 1), ("b", 0)
        self.told(False, *[((), tuple([(cell, number) for number, cell in enumerate(cells)])) for cells in (
            (two, one), (three, one), (three, two), (one, one), (one, three, two), (one, two, two))])
        self.told(False, ((), ((one, 1), (one, 1))), ((), ((one, 2), (one, 1))))
        self.told(True, ((), ((one, 3), (two, 2), (three, 1))))

    def test_cells_of_the_code(self):
        for cell in (("a", 3), ("b", 2), ("c", 1), ("a", -1), ("d", 0), ("main", 0), ("sub", 0), ("a", FAR), ("x", 0)):
            self.told(False, ((), ((cell, 1),)))
        for cell in cells_in(CODE):
            self.told(True, ((), ((cell, 1),)))
        self.all_told(is_start, False, (LEAST, ((), ((("a", 1), 1),))), (LEAST, ((), ((("b", 0), 1),))))

    def test_cells_of_other_kinds(self):
        for thing in (*STRANGE, 0, "a", "a:0", ("a",), ("a", 0, 0), ["a", 0], ("a", True), ("a", False), ("a", "0"), ("a", "x"),
                      ("a", None), (("a",), 0), (["a"], 0), (0, "a"), ("A", 0)):
            self.told(False, ((), ((thing, 1),)), ((), ((("a", 0), 1), (thing, 1))))

    def test_names_of_other_kinds(self):
        for thing in (*STRANGE, 0, 1, ("a", 0), ["a"], ("x",)):
            self.told(False, (((thing, 1),), ()), ((("a", 1), (thing, 1)), ()))

    def test_numbers_of_other_kinds(self):
        for thing in (*STRANGE, "1", "x", (1,), [1]):
            self.told(False, ((("x", thing),), ()), ((), ((("a", 0), thing),)), ((("w", 1), ("x", thing)), ()),
                      ((), ((("a", 0), 1), (("a", 1), thing))))

    def test_lists_are_no_tuples(self):
        self.told(False, [(), ()], ([], ()), ((), []), ([("x", 1)], ()), ((["x", 1],), ()), ((), [(("a", 0), 1)]),
                  ((), ([("a", 0), 1],)), ((), ((["a", 0], 1),)))

    def test_shape(self):
        self.told(False, *STRANGE, 0, "-", "", (("x", 1), ("y", 1)), ((), (), ()), (((), ()),), (((("a", 0), 1),), ()),
                  ((), (("x", 1),)), ((("x",),), ()), ((("x", 1, 1),), ()), ((), ((("a", 0),),)), ((), ((("a", 0), 1, 1),)),
                  (("",), ()), ("", ""))

    def test_by_name(self):
        self.assertIs(is_start(code=CODE, thing=((), ())), True)
        self.assertIs(is_start(thing=None, code=CODE), False)


class TestWorth(Case):
    def test_numbers(self):
        for number in (0, 1, -1, 7, FAR, -FAR, 10 ** 5000):
            for names in (None, (), NAMES):
                self.same(worth(number, names), number)
            self.same(worth(number), number)

    def test_names(self):
        self.same([worth(name, NAMES) for name in ("i", "p", "x")], [1, -1, 2])

    def test_names_that_are_not_there(self):
        for name in ("a", "j", "z", "xx", "ip"):
            self.same(worth(name, NAMES), 0)
            self.same(worth(name, ()), 0)
            self.same(worth(name, None), 0)
            self.same(worth(name), 0)

    def test_any_whole_number(self):
        for far in (10 ** 5000, -10 ** 5000):
            self.same(worth("x", (("x", far),)), far)

    def test_by_name(self):
        self.same(worth(operand="x", names=NAMES), 2)
        self.same(worth(names=NAMES, operand=-4), -4)
        self.same(worth(operand="x"), 0)


class TestCellBy(Case):
    def told(self, want, address, *named):
        names = tuple(sorted(named))
        kept = copy.deepcopy((CODE, address, names))
        self.same(cell_by(CODE, address, names), want)
        self.same((CODE, address, names), kept)

    def test_numbers(self):
        for names in (None, (), NAMES):
            self.same(cell_by(CODE, (("a",), 0, 2), names), ("a", 2))
            self.same(cell_by(CODE, (("b", "a"), 1, 0), names), ("a", 0))
        self.same(cell_by(CODE, (("c",), 0, 0)), ("c", 0))

    def test_names_none_and_empty(self):
        for address, want in (((("b", "a"), "p", "i"), ("b", 0)), ((("a",), 0, "i"), ("a", 0)),
                              ((("b", "a"), "p", 1), ("b", 1))):
            self.same(cell_by(CODE, address), want)
            self.same(cell_by(CODE, address, None), want)
            self.same(cell_by(CODE, address, ()), want)

    def test_index(self):
        address = (("a",), 0, "i")
        for number in (0, 1, 2):
            self.told(("a", number), address, ("i", number))
        for number in (-1, -2, -3, -4, 3, 4, 100, FAR, -FAR, 10 ** 5000):
            self.told(None, address, ("i", number))

    def test_index_by_the_size_of_the_object_picked(self):
        address = (("a", "b", "c"), "p", "i")
        for pick, (word, size) in enumerate((("a", 3), ("b", 2), ("c", 1))):
            for index in range(-2, 5):
                self.told((word, index) if 0 <= index < size else None, address, ("i", index), ("p", pick))
        self.told(("a", 2), (("b", "a"), "p", "i"), ("i", 2), ("p", 1))
        self.told(None, (("b", "a"), "p", "i"), ("i", 2), ("p", 0))

    def test_pick(self):
        address = (("b", "a"), "p", 1)
        self.told(("b", 1), address, ("p", 0))
        self.told(("a", 1), address, ("p", 1))
        for number in (-1, -2, -3, 2, 3, 100, FAR, -FAR, 10 ** 5000):
            self.told(None, address, ("p", number))
        for number in (-1, 1, 2):
            self.told(None, (("c",), "p", 0), ("p", number))

    def test_one_name_for_both(self):
        address = (("b", "a"), "x", "x")
        self.told(("b", 0), address, ("x", 0))
        self.told(("a", 1), address, ("x", 1))
        self.told(None, address, ("x", 2))
        self.told(None, address, ("x", -1))

    def test_a_name_like_an_object(self):
        self.told(("a", 2), (("a",), 0, "a"), ("a", 2))

    def test_by_name(self):
        self.same(cell_by(code=CODE, address=(("a",), 0, "x"), names=NAMES), ("a", 2))
        self.same(cell_by(address=(("a",), 0, "x"), code=CODE), ("a", 0))


if __name__ == "__main__":
    unittest.main()
