"""CODE and things that several tests hand in, and how tests compare."""

import copy
import random
import unittest

from storeways.codes import places_in, routines_of
from storeways.errors import NoPaper

MAIN = (
    ((("load", "x", (("a",), 0, "i")),
      ("store", (("a", "b"), "p", 1), -7),
      ("touch", (("c",), "q", "q")),
      ("set", "y", "<", "x", "z")),
     ("if", "w", 1, 2)),
    ((("call", "sub"), ("tell", "t"), ("need", 0)), ("go", 0)),
    ((), ("back",)),
)
SUB = (
    ((("call", "sub"), ("store", (("b", "a"), 0, 0), "v")), ("if", -3, 0, 1)),
    ((("tell", 10 ** 6),), ("back",)),
)
OBJECTS = (("a", 3), ("b", 2), ("c", 1))
CODE = (OBJECTS, (("main", MAIN), ("sub", SUB)))

BACK = ("back",)
A0 = (("a",), 0, 0)
A1 = (("a",), 0, 1)
ANY_A = (("a",), 0, "i")
CELL = ("a", 0)
STORE = ("store", A0, 7)
PERHAPS = ("store", ANY_A, 7)
LOAD = ("load", "x", A0)
TELL = ("tell", 1)
CALL = ("call", "sub")
LEAF = (((), BACK),)
NEVER = (((), ("go", 0)),)
M = [("main", 0, k) for k in range(8)]
LEAST = ((("a", 1),), (("main", (((), ("back",)),)),))

# Things that are nothing but themselves: no look takes one of them for something of its kind.
STRANGE = (
    None, True, False, "", " ", "-", "abcdefghi", "Main", "a1", "a\n", "a b", (), [], (None,), ((),), ((), (), ()),
    [1, 2], ["a"], (1, [2, ["a"]]), (True, False), ((("a", True),), ()),
)


def alike(one, other):
    """Equal and of the same kinds throughout: no truth for a number, no list for a tuple."""
    if one.__class__ is not other.__class__:
        return False
    if isinstance(one, (tuple, list)):
        return len(one) == len(other) and all(map(alike, one, other))
    return one == other


def said(function, *things):
    """What a checker says: what it tells, or the word and the number of its refusal."""
    try:
        return function(*things)
    except NoPaper as refusal:
        return (refusal.word, refusal.at)


class Case(unittest.TestCase):
    """A test case that holds True and 1 apart."""

    def same(self, got, want):
        """Equal and of the same kinds; what differs is shown by Python's own comparison where it can."""
        if not alike(got, want):
            self.assertEqual(got, want)
            self.fail(f"{got!r} and {want!r} are not of the same kinds")

    def all_told(self, function, want, *cases):
        """Of each case, a tuple of arguments, the function tells just this, and changes none of them."""
        for case in cases:
            with self.subTest(case=case):
                kept = copy.deepcopy(case)
                self.assertIs(function(*case), want)
                self.same(case, kept)

    def untouched(self, function, *things):
        """What the function tells of these things, told twice alike, and none of them changed."""
        kept = copy.deepcopy(things)
        told = function(*things)
        self.same(function(*things), told)
        self.same(things, kept)
        return told

    def refused(self, error, fields, function, *things, **named):
        """It is refused with just this error, whose fields are the very things."""
        with self.assertRaises(error) as caught:
            function(*things, **named)
        self.assertIs(caught.exception.__class__, error)
        for field in fields:
            self.assertIs(getattr(caught.exception, field), fields[field])

    def no_paper(self, word, at, function, *things):
        """The checker doesn't let the last of these things by, with this word and this number or PLACE."""
        with self.subTest(thing=things[-1]):
            with self.assertRaises(NoPaper) as caught:
                function(*things)
            self.assertIs(caught.exception.__class__, NoPaper)
            self.same((caught.exception.word, caught.exception.at), (word, at))


def store(address=A0):
    """A "store" by an ADDRESS."""
    return ("store", address, 7)


def call(name="sub"):
    """A "call" of a routine."""
    return ("call", name)


def block(*rows):
    """A BLOCK of these ROWS, the last of them its END."""
    return (rows[:-1], rows[-1])


def code_of(*main, **routines):
    """CODE with the sample's OBJECTS, of these blocks of main and of the other routines."""
    return (OBJECTS, tuple(sorted({**routines, "main": main}.items())))


def ends_only(*ends, rows=()):
    """CODE whose main has blocks with these ENDS, each with the same ROWS."""
    return code_of(*[(rows, end) for end in ends], sub=(block(("go", 0)),))


def some_address(chance):
    """An ADDRESS of the sample's OBJECTS."""
    objects = tuple(chance.sample(("a", "b", "c"), chance.choice((1, 1, 2, 3))))
    index = chance.choice((0, 0, "i", "j") + ((1,) if "c" not in objects else ()))
    return (objects, chance.choice((0, len(objects) - 1, "p", "j")), index)


def some_row(chance, callable_ones):
    """A ROW; one that calls where there is somebody to call."""
    operand = chance.choice((0, 1, 2, -1, "i", "j", "p", "x"))
    name = chance.choice(("i", "j", "p", "x"))
    word = chance.choice(("load", "store", "store", "touch", "set", "tell", "need", "call", "call"))
    sign = chance.choice("+-*<")
    # A product by a NAME would come to be far too long in a loop.
    other = chance.choice((0, 1, 2, -1) if sign == "*" else (0, 1, 2, "i", "x"))
    if word == "call" and callable_ones:
        return ("call", chance.choice(callable_ones))
    return {
        "load": ("load", name, some_address(chance)),
        "store": ("store", some_address(chance), operand),
        "touch": ("touch", some_address(chance)),
        "set": ("set", name, sign, operand, other),
        "need": ("need", chance.choice((1, 1, operand))),
    }.get(word, ("tell", operand))


def some_end(chance, many):
    """An END of a routine of so many blocks."""
    one, other = chance.randrange(many), chance.randrange(many)
    return chance.choice((("go", one), ("if", chance.choice((0, 1, "i", "x")), one, other), ("back",), ("back",)))


def some_code(seed, most_rows=3):
    """CODE made by a seed: the same for the same one."""
    chance = random.Random(seed)
    others = chance.choice(((), ("sub",), ("sub", "zub"), ("aub", "sub")))
    routines = []
    for name in sorted(("main", *others)):
        many = chance.choice((1, 2, 3, 4))
        routines.append((name, tuple([
            (tuple([some_row(chance, others) for _ in range(chance.randrange(most_rows + 1))]), some_end(chance, many))
            for _ in range(many)])))
    return (OBJECTS, tuple(routines))


def some_start(seed):
    """A START of such CODE, made by a seed."""
    chance = random.Random(seed)
    names = tuple([(name, chance.choice((0, 1, 1, 2, -1))) for name in ("i", "j", "p", "x") if chance.random() < 0.7])
    cells = tuple([((word, at), chance.choice((0, 1, 2, -3))) for word, size in OBJECTS for at in range(size)
                   if chance.random() < 0.6])
    return (names, cells)


def exchanged(things, at, thing):
    """A tuple with another thing at this place."""
    return things[:at] + (thing,) + things[at + 1:]


def with_main(*blocks):
    """CODE like the sample, but that main has these blocks."""
    return (OBJECTS, (("main", blocks), ("sub", SUB)))


def with_row(row):
    """CODE like the sample, but that main is of this row alone."""
    return with_main(((row,), ("back",)))


def busy_end(chance, block, many):
    """An END of this block by which most of so many are come to: the last one is a "back"."""
    if block == many - 1:
        return ("back",)
    goal = chance.randrange(many)
    return chance.choice((("if", "x", block + 1, goal), ("if", "x", goal, block + 1), ("go", block + 1), ("go", goal)))


def busy_code(seed, most_blocks=4):
    """CODE made by a seed, of few CELLS, much of it met: branches, loops, calls in calls and in a ring."""
    chance = random.Random(seed)
    objects = (("a", 2), ("c", 1))
    others = chance.choice((("sub",), ("sub", "zub"), ("aub", "sub", "zub")))

    def row():
        picked = chance.choice((("a",), ("a",), ("c",), ("a", "c")))
        address = (picked, chance.choice((0, len(picked) - 1, "p")), chance.choice((0, 0, "i")))
        name = chance.choice(("x", "i"))
        return chance.choice((
            ("load", name, address), ("load", name, address), ("store", address, 1), ("store", address, 1),
            ("call", chance.choice(others)), ("call", chance.choice(others)), ("set", name, "+", name, 1), ("tell", 1)))

    routines = []
    for name in sorted(("main", *others)):
        many = chance.randrange(1, most_blocks + 1)
        routines.append((name, tuple([
            (tuple([row() for _ in range(chance.choice((0, 1, 1, 2, 3)))]), busy_end(chance, number, many))
            for number in range(many)])))
    return (objects, tuple(routines))


def fullest(code):
    """The TABLE that has all that can be there."""
    places = places_in(code)
    return (tuple([(place, places, True) for place in places]), tuple([(name, (None, *places)) for name in routines_of(code)]))


def sure_code(seed):
    """CODE made by a seed whose reads and stores are SURE but for a few: much of it may be left out and carried."""
    chance = random.Random(seed)
    others = chance.choice(((), ("sub",), ("sub", "zub")))
    addresses = ((("a",), 0, 0), (("a",), 0, 0), (("a",), 0, 1), (("c",), "p", "i"), (("a",), 0, "i"))

    def row():
        name, operand = chance.choice("xyi"), chance.choice((0, 1, 5, "x", "y", "i"))
        word = chance.choice(("load", "load", "load", "store", "store", "set", "tell", "call"))
        if word == "call" and others:
            return ("call", chance.choice(others))
        return {
            "load": ("load", name, chance.choice(addresses)),
            "store": ("store", chance.choice(addresses[:4] if chance.random() < 0.8 else addresses), operand),
            "set": ("set", name, "+", operand, 1),
        }.get(word, ("tell", operand))

    routines = []
    for name in sorted(("main", *others)):
        many = chance.randrange(1, 4)
        routines.append((name, tuple([
            (tuple([row() for _ in range(chance.randrange(1, 5))]), busy_end(chance, number, many)) for number in range(many)])))
    return ((("a", 2), ("c", 1)), tuple(routines))
