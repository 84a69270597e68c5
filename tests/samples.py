"""CODE and things that several tests hand in, and how tests compare."""

import copy
import unittest

MAIN = (
    ((("load", "x", (("a",), 0, "i")),
      ("store", (("a", "b"), "p", 1), -7),
      ("touch", (("c",), "q", "q")),
      ("set", "y", "<", "x", "z")),
     ("if", "w", 1, 2)),
    ((("call", "sub"), ("tell", "t"), ("need", 0)), ("go", 0)),
    ((), ("back",)),
)
SUB = (
    ((("call", "sub"), ("store", (("b", "a"), 0, 0), "v")), ("if", -3, 0, 1)),
    ((("tell", 10 ** 6),), ("back",)),
)
OBJECTS = (("a", 3), ("b", 2), ("c", 1))
CODE = (OBJECTS, (("main", MAIN), ("sub", SUB)))

LEAST = ((("a", 1),), (("main", (((), ("back",)),)),))

# Things that are nothing but themselves: no look takes one of them for something of its kind.
STRANGE = (
    None, True, False, "", " ", "-", "abcdefghi", "Main", "a1", "a\n", "a b", (), [], (None,), ((),), ((), (), ()),
    [1, 2], ["a"], (1, [2, ["a"]]), (True, False), ((("a", True),), ()),
)


def alike(one, other):
    """Equal and of the same kinds throughout: no truth for a number, no list for a tuple."""
    if one.__class__ is not other.__class__:
        return False
    if isinstance(one, (tuple, list)):
        return len(one) == len(other) and all(map(alike, one, other))
    return one == other


class Case(unittest.TestCase):
    """A test case that holds True and 1 apart."""

    def same(self, got, want):
        """Equal and of the same kinds; what differs is shown by Python's own comparison where it can."""
        if not alike(got, want):
            self.assertEqual(got, want)
            self.fail(f"{got!r} and {want!r} are not of the same kinds")

    def all_told(self, function, want, *cases):
        """Of each case, a tuple of arguments, the function tells just this, and changes none of them."""
        for case in cases:
            with self.subTest(case=case):
                kept = copy.deepcopy(case)
                self.assertIs(function(*case), want)
                self.same(case, kept)

    def refused(self, error, fields, function, *things, **named):
        """It is refused with just this error, whose fields are the very things."""
        with self.assertRaises(error) as caught:
            function(*things, **named)
        self.assertIs(caught.exception.__class__, error)
        for field in fields:
            self.assertIs(getattr(caught.exception, field), fields[field])


def exchanged(things, at, thing):
    """A tuple with another thing at this place."""
    return things[:at] + (thing,) + things[at + 1:]


def with_main(*blocks):
    """CODE like the sample, but that main has these blocks."""
    return (OBJECTS, (("main", blocks), ("sub", SUB)))


def with_row(row):
    """CODE like the sample, but that main is of this row alone."""
    return with_main(((row,), ("back",)))
