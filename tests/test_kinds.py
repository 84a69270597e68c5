"""[10]: NUMBERS, WORDS, OPERANDS, OBJECTS, of any thing."""

import unittest

from storeways.kinds import is_number, is_objects, is_operand, is_word
from tests.samples import STRANGE, Case

FAR = 10 ** 200 - 1

NUMBERS = (0, 1, 2, -1, -7, 10 ** 6, FAR, -FAR)
WORDS = ("a", "z", "ab", "main", "load", "abcdefgh", "zzzzzzzz", "aaaaaaaa")
NO_WORDS = ("", "abcdefghi", "abcdefghijklmnop", "A", "aB", "Ab", "ABCDEFGH", "a1", "1", "-1", "a_b", "a b", " a", "a ",
            "a\n", "\n", "`", "{", "a{", "a-b", "+", "a:b", "~")


def alone(things):
    """Each thing as the one argument."""
    return [(thing,) for thing in things]


class TestNumbers(Case):
    def test_numbers(self):
        self.all_told(is_number, True, *alone(NUMBERS))

    def test_truths_are_no_numbers(self):
        self.all_told(is_number, False, (True,), (False,))

    def test_other_things(self):
        self.all_told(is_number, False, *alone(STRANGE), *alone(WORDS), *alone(NO_WORDS), ((1,),), ([1],), ("0",))

    def test_by_name(self):
        self.assertIs(is_number(thing=3), True)
        self.assertIs(is_number(thing=True), False)


class TestWords(Case):
    def test_words(self):
        self.all_told(is_word, True, *alone(WORDS))
        for sign in "abcdefghijklmnopqrstuvwxyz":
            self.assertIs(is_word(sign), True)

    def test_other_texts(self):
        self.all_told(is_word, False, *alone(NO_WORDS))

    def test_no_other_sign_is_in_a_word(self):
        for code in range(32, 127):
            if not "a" <= chr(code) <= "z":
                for text in (chr(code), "a" + chr(code), chr(code) + "a", "ab" + chr(code) + "cd"):
                    self.assertIs(is_word(text), False)

    def test_lengths(self):
        for many in range(12):
            self.assertIs(is_word("k" * many), 1 <= many <= 8)

    def test_other_things(self):
        self.all_told(is_word, False, *alone(NUMBERS), *alone(STRANGE), (("a",),), (["a"],), (("a", "b"),), (["a", "b"],))

    def test_by_name(self):
        self.assertIs(is_word(thing="x"), True)


class TestOperands(Case):
    def test_numbers_and_names(self):
        self.all_told(is_operand, True, *alone(NUMBERS), *alone(WORDS))

    def test_other_things(self):
        self.all_told(is_operand, False, *alone(NO_WORDS), *alone(STRANGE), (("a",),), ((1,),), ([0],))

    def test_by_name(self):
        self.assertIs(is_operand(thing="x"), True)


class TestObjects(Case):
    def test_objects(self):
        self.all_told(is_objects, True, *alone((
            (("a", 1),),
            (("abcdefgh", 4),),
            (("a", 2), ("b", 1)),
            (("a", 1), ("aa", 1), ("ab", 1), ("b", 1)),
            (("main", 1), ("x", 1)),
        )))

    def test_no_bounds(self):
        many = tuple(("k" + chr(97 + k), 10 ** 199) for k in range(26))
        self.all_told(is_objects, True, (many,), ((("a", FAR),),), ((("a", 5),),))

    def test_none_is_too_few(self):
        self.all_told(is_objects, False, ((),), ([],))

    def test_they_rise_and_are_unlike(self):
        self.all_told(is_objects, False, *alone((
            (("b", 1), ("a", 1)),
            (("a", 1), ("c", 1), ("b", 1)),
            (("b", 1), ("a", 2), ("c", 3)),
            (("ab", 1), ("a", 2)),
            (("a", 1), ("a", 1)),
            (("a", 1), ("a", 2)),
            (("a", 2), ("a", 1)),
            (("a", 1), ("b", 1), ("b", 2)),
        )))

    def test_sizes(self):
        self.all_told(is_objects, False, *[((("a", size),),) for size in (
            0, -1, -FAR, True, False, None, "1", "x", (1,), [1])])
        self.all_told(is_objects, False, ((("a", 1), ("b", 0)),), ((("a", 1), ("b", True)),), ((("a", True), ("b", 1)),))

    def test_words(self):
        self.all_told(is_objects, False, *[(((word, 1),),) for word in (*NO_WORDS, *NUMBERS, *STRANGE)])
        self.all_told(is_objects, False, ((("a", 1), ("B", 1)),), ((("A", 1), ("b", 1)),))

    def test_pairs(self):
        self.all_told(is_objects, False, *alone((
            (("a",),), (("a", 1, 1),), (("a", 1, "b", 1),), ((),), ("a",), ("a", 1), ("ab", "cd"),
            (("a", 1), ()), (("a", 1), None), ((1, "a"),), ((("a", 1),),),
        )))

    def test_lists_are_no_tuples(self):
        self.all_told(is_objects, False, ([("a", 1)],), ((["a", 1],),), ([["a", 1]],), ((("a", 1), ["b", 1]),),
                      (((["a"], 1),),))

    def test_other_things(self):
        self.all_told(is_objects, False, *alone(STRANGE), *alone(NUMBERS), *alone(WORDS))

    def test_by_name(self):
        self.assertIs(is_objects(thing=(("a", 1),)), True)


if __name__ == "__main__":
    unittest.main()
