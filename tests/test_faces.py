"""[10] for cells_in, [11]: ADDRESSES and their FACES, by [3]."""

import itertools
import unittest

from storeways.faces import can_fault, cells_in, face, is_address, is_sure
from storeways.operands import cell_by
from tests.samples import CODE, LEAST, STRANGE, Case

REST = LEAST[1]
OPERANDS = (-1, 0, 1, 2, 3, 4, "x", "y", "a", "abcdefgh")


def by_objects(*objects):
    """The least CODE with these OBJECTS."""
    return (objects, REST)


def addresses(code):
    """ADDRESSES of CODE, of one object to all, in each order."""
    words = [word for word, size in code[0]]
    for many in range(1, len(words) + 1):
        for objects in itertools.permutations(words, many):
            for pick, index in itertools.product(OPERANDS, OPERANDS):
                if is_address(code, (objects, pick, index)):
                    yield (objects, pick, index)


class TestCells(Case):
    def test_cells(self):
        self.same(cells_in(CODE), (("a", 0), ("a", 1), ("a", 2), ("b", 0), ("b", 1), ("c", 0)))
        self.same(cells_in(LEAST), (("a", 0),))

    def test_beyond_the_bounds(self):
        code = by_objects(("a", 12), ("b", 1), ("c", 1), ("d", 1), ("e", 2))
        self.same(cells_in(code), tuple([("a", k) for k in range(12)]
                                        + [("b", 0), ("c", 0), ("d", 0), ("e", 0), ("e", 1)]))

    def test_they_rise(self):
        self.same(cells_in(CODE), tuple(sorted(set(cells_in(CODE)))))

    def test_by_name(self):
        self.same(cells_in(code=LEAST), (("a", 0),))


class TestAddresses(Case):
    def told(self, want, *things):
        self.all_told(is_address, want, *[(CODE, thing) for thing in things])

    def test_numbers(self):
        self.told(True, (("a",), 0, 0), (("a",), 0, 2), (("b",), 0, 1), (("c",), 0, 0), (("a", "b"), 1, 1),
                  (("a", "b", "c"), 2, 0))

    def test_pick_at_and_beyond_the_last_one(self):
        self.told(False, (("a",), 1, 0), (("a", "b"), 2, 0), (("a", "b", "c"), 3, 0), (("a",), -1, 0),
                  (("a", "b"), -1, 0), (("a", "b"), -2, 0), (("a",), 10 ** 199, 0))

    def test_index_at_and_beyond_the_last_one(self):
        self.told(False, (("a",), 0, 3), (("b",), 0, 2), (("c",), 0, 1), (("a",), 0, -1), (("a",), 0, -3),
                  (("a",), 0, 10 ** 199))

    def test_index_is_below_the_size_of_each_object(self):
        self.told(False, (("a", "b"), 0, 2), (("b", "a"), 1, 2), (("a", "c"), 0, 1), (("a", "b", "c"), "p", 1))
        self.told(True, (("a", "b"), "p", 1), (("b", "a"), 0, 1), (("a", "c"), "p", 0))

    def test_names(self):
        self.told(True, (("a",), "p", 0), (("a",), 0, "i"), (("a",), "p", "i"), (("a",), "x", "x"), (("a",), "a", "a"),
                  (("a", "c"), "p", "i"), (("a", "c"), 1, "i"), (("c", "a"), "abcdefgh", "z"))
        self.told(False, (("a",), "p", 3), (("a",), "p", -1), (("a",), 1, "i"), (("a",), -1, "i"))

    def test_pick_and_index_of_other_kinds(self):
        for thing in (True, False, None, "", "A", "abcdefghi", "a1", "0", (), (0,), [], [0], ["x"]):
            self.told(False, (("a", "b"), thing, 0), (("a", "b"), 0, thing), (("a", "b"), thing, thing),
                      (("a", "b"), "x", thing), (("a", "b"), thing, "x"))

    def test_objects_are_unlike(self):
        self.told(False, (("a", "a"), 0, 0), (("a", "a"), "p", "i"), (("a", "b", "a"), 0, 0), (("b", "a", "a"), 0, 0))

    def test_objects_in_any_order(self):
        self.told(True, (("b", "a"), 0, 0), (("c", "a", "b"), 2, 0))

    def test_objects_are_there(self):
        self.told(False, (("d",), 0, 0), (("a", "d"), 0, 0), (("d", "a"), 1, 0), (("main",), 0, 0), (("sub",), 0, 0))

    def test_objects_of_other_kinds(self):
        self.told(False, ((), 0, 0), ((), "p", "i"), (["a"], 0, 0), ("a", 0, 0), ("ab", 0, 0), (None, 0, 0), (0, 0, 0))
        for thing in STRANGE + (0, 1, ("a",), ["a"], ("a", 3)):
            self.told(False, ((thing,), 0, 0), (("a", thing), 0, 0), ((thing, "a"), "p", 0))

    def test_shape(self):
        self.told(False, *STRANGE, 0, 1, "a", ("a",), (("a",),), (("a",), 0), (("a",), 0, 0, 0), [("a",), 0, 0],
                  ("a", 0), ("a", 0, 0), (0, 0, ("a",)), ((("a",), 0, 0),))

    def test_no_bounds(self):
        code = by_objects(("a", 10 ** 199), ("b", 5), ("c", 5), ("d", 5), ("e", 5))
        self.all_told(is_address, True, (code, (("a",), 0, 10 ** 198)), (code, (("e", "d", "c", "b", "a"), 4, 4)))
        self.all_told(is_address, False, (code, (("a",), 0, 10 ** 199)), (code, (("e", "d", "c", "b", "a"), 5, 4)),
                      (code, (("e", "d", "c", "b", "a"), 4, 5)))

    def test_by_name(self):
        self.assertIs(is_address(code=CODE, thing=(("a",), 0, 0)), True)
        self.assertIs(is_address(thing=(("d",), 0, 0), code=CODE), False)


class TestFaces(Case):
    def told(self, address, *cells):
        self.same(face(CODE, address), cells)

    def test_numbers(self):
        self.told((("a",), 0, 2), ("a", 2))
        self.told((("b", "a"), 1, 0), ("a", 0))
        self.told((("b", "a"), 0, 1), ("b", 1))

    def test_index_is_a_name(self):
        self.told((("a",), 0, "i"), ("a", 0), ("a", 1), ("a", 2))
        self.told((("a", "b"), 1, "i"), ("b", 0), ("b", 1))
        self.told((("c", "a"), 0, "i"), ("c", 0))

    def test_pick_is_a_name(self):
        self.told((("b", "a"), "p", 1), ("a", 1), ("b", 1))
        self.told((("c", "b", "a"), "p", 0), ("a", 0), ("b", 0), ("c", 0))
        self.told((("b",), "p", 1), ("b", 1))

    def test_both_are_names(self):
        self.told((("c", "a"), "p", "i"), ("a", 0), ("a", 1), ("a", 2), ("c", 0))
        self.told((("b", "a"), "x", "x"), ("a", 0), ("a", 1), ("a", 2), ("b", 0), ("b", 1))

    def test_a_name_like_an_object_is_a_name(self):
        self.told((("a", "b"), "a", 0), ("a", 0), ("b", 0))

    def test_it_rises(self):
        for address in addresses(CODE):
            self.same(face(CODE, address), tuple(sorted(set(face(CODE, address)))))

    def test_by_name(self):
        self.same(face(code=CODE, address=(("c",), 0, 0)), (("c", 0),))

    def test_cells_of_it_are_cells_of_the_code(self):
        for address in addresses(CODE):
            self.assertLessEqual(set(face(CODE, address)), set(cells_in(CODE)))


class TestSure(Case):
    def test_sure(self):
        self.all_told(is_sure, True, *[(CODE, address) for address in (
            (("a",), 0, 2), (("a", "b"), 1, 1), (("b",), "p", 0), (("c",), 0, "i"), (("c",), "p", 0), (("c",), "p", "i"),
            (("c",), "x", "x"), (("a", "c"), 1, "i"))])

    def test_not_sure(self):
        self.all_told(is_sure, False, *[(CODE, address) for address in (
            (("a",), 0, "i"), (("a",), "p", "i"), (("a", "b"), "p", 1), (("a", "b"), "p", "i"), (("b", "c"), 0, "i"),
            (("a", "c"), "p", 0), (("b",), "x", "x"))])

    def test_it_hangs_on_the_size(self):
        self.assertIs(is_sure(by_objects(("a", 1)), (("a",), 0, "i")), True)
        self.assertIs(is_sure(by_objects(("a", 2)), (("a",), 0, "i")), False)

    def test_by_name(self):
        self.assertIs(is_sure(code=CODE, address=(("c",), 0, 0)), True)


class TestFaults(Case):
    def test_can_fault(self):
        self.all_told(can_fault, True, *[(address,) for address in (
            (("a",), 0, "i"), (("a",), "p", 0), (("a",), "p", "i"), (("a",), "x", "x"), (("c",), "p", "i"),
            (("c",), 0, "i"), (("c",), "p", 0), (("a", "b"), "p", 1))])

    def test_can_not_fault(self):
        self.all_told(can_fault, False, *[(address,) for address in (
            (("a",), 0, 0), (("a",), 0, 2), (("c",), 0, 0), (("a", "b"), 1, 1))])

    def test_one_object_of_size_1(self):
        self.same([is_sure(CODE, (("c",), pick, index)) for pick in (0, "p") for index in (0, "i")], [True] * 4)
        self.same([can_fault((("c",), pick, index)) for pick in (0, "p") for index in (0, "i")],
                  [False, True, True, True])

    def test_by_name(self):
        self.assertIs(can_fault(address=(("c",), 0, 0)), False)


class TestWhateverNamesHave(Case):
    """[11]: by all NUMBERS of the NAMES it is a CELL of the FACE or a FAULT, and each CELL of the FACE by some."""

    def cells_by(self, address):
        found = set()
        for x, y in itertools.product(range(-2, 5), range(-2, 5)):
            found.add(cell_by(CODE, address, (("a", x), ("abcdefgh", y), ("x", x), ("y", y))))
        return found

    def test_cells_by_names(self):
        for address in addresses(CODE):
            found = self.cells_by(address)
            self.assertEqual(None in found, can_fault(address), address)
            found.discard(None)
            self.assertLessEqual(found, set(face(CODE, address)), address)
            hangs = {"a": "x", "abcdefgh": "y"}
            pick, index = [hangs.get(operand, operand) for operand in address[1:]]
            if pick != index or not isinstance(pick, str):
                self.assertEqual(found, set(face(CODE, address)), address)


if __name__ == "__main__":
    unittest.main()
