"""[89]: texts read as ROWS, CODE, STARTS, PLACES; the first line and word that can't stand of all others."""

import unittest

from storeways.codes import is_code, places_in, row_at
from storeways.errors import NoText
from storeways.lines import shown_code, shown_place, shown_row, shown_start
from storeways.readings import read_code, read_place, read_row, read_start
from tests.samples import CODE, LEAST, Case, code_of, some_code, some_start

TWELVE = 10 ** 12 - 1
NO_NUMBERS = ("", "-", "00", "01", "007", "-0", "-00", "-01", "+1", "--1", "1-", "1.0", "1e3", "0x1", "1_0", "x1", "1x", "A", "X",
              "1000000000000", "-1000000000000", "0000000000001", "1\n", "\n", "\n1", "1\t", "a\n", "*", "=", ",", ":")
NO_COUNTS = NO_NUMBERS + ("-1", "-12")
NO_WORDS = ("", "A", "Ab", "aB", "a1", "1", "-", "abcdefghi", "a-b", "a,b", "a:0", "a\n", "a_b", "+", "0", "x=1")
NO_ADDRESSES = ("", "a", "a:", "a:0", "a:0:", ":0:0", "a::0", "a:0:0:", ":a:0:0", "a:0:0:0", "a,:0:0", ",a:0:0", "a,,b:0:0", "a,a:0:0",
                "a,b,a:0:0", "A:0:0", "abcdefghi:0:0", "a,B:0:0", "1:0:0", "a:-1:0", "a:0:-1", "a:01:0", "a:0:00", "a:1000000000000:0",
                "a:0:1000000000000", "a:X:0", "a:0:x,y", "a,b:x", "a;b:0:0", "a:0:0\n", "a\n:0:0", "a,b", "a=0", "-", "x", "0", "-0:0:0")


class ReadCase(Case):
    def no_text(self, line, word, read, *things):
        """It is refused with this line and this word."""
        with self.subTest(things=things):
            with self.assertRaises(NoText) as caught:
                self.untouched(read, *things)
            self.same((caught.exception.line, caught.exception.word), (line, word))


class TestRows(ReadCase):
    ROWS = (
        ("load x a:0:i", ("load", "x", (("a",), 0, "i"))),
        ("store a,b:p:3 -7", ("store", (("a", "b"), "p", 3), -7)),
        ("set x + x 1", ("set", "x", "+", "x", 1)),
        ("call sub", ("call", "sub")),
        ("touch b,abcdefgh,a:2:10", ("touch", (("b", "abcdefgh", "a"), 2, 10))),
        ("set abcdefgh - 0 -999999999999", ("set", "abcdefgh", "-", 0, -TWELVE)),
        ("set x * 999999999999 y", ("set", "x", "*", TWELVE, "y")),
        ("set x < y -1", ("set", "x", "<", "y", -1)),
        ("tell 0", ("tell", 0)),
        ("tell tell", ("tell", "tell")),
        ("need -10", ("need", -10)),
        ("need need", ("need", "need")),
        ("call main", ("call", "main")),
        ("load load load:load:load", ("load", "load", (("load",), "load", "load"))),
        ("store a:999999999999:999999999999 x", ("store", (("a",), TWELVE, TWELVE), "x")),
    )

    def test_rows(self):
        for text, row in self.ROWS:
            self.same(self.untouched(read_row, text), row)
            self.same(shown_row(row), text)

    def test_the_first_word(self):
        for text in ("", " ", "x", "Load", "LOAD x a:0:0", "loads x a:0:0", "loa", "-", "0", "+", "object a 1", "routine main", "load\n", "\n",
                     "load\nx", " load x a:0:0", "tell\t1", ":", "load,x"):
            self.no_text(0, 0, read_row, text)

    def test_an_end_is_no_row(self):
        for text in ("go 0", "go", "if x 0 1", "if", "back", "back 1", "back ", "go x"):
            self.no_text(0, 0, read_row, text)

    def test_too_few(self):
        for text, row in self.ROWS:
            words = text.split(" ")
            for many in range(1, len(words)):
                self.no_text(0, many, read_row, " ".join(words[:many]))

    def test_too_many(self):
        for text, row in self.ROWS:
            for more in ("x", "0", "a:0:0", "-", "tell 1", ""):
                self.no_text(0, len(text.split(" ")), read_row, text + " " + more)

    def test_blanks(self):
        for text, row in self.ROWS:
            words = text.split(" ")
            for many in range(len(words) + 1):
                self.no_text(0, many, read_row, " ".join(words[:many] + [""] + words[many:]))

    def test_each_word(self):
        names, operands = NO_WORDS, [word for word in NO_NUMBERS]
        for ahead, wrong, behind in (
                ("load", names, "a:0:0"), ("load x", NO_ADDRESSES, ""), ("store", NO_ADDRESSES, "1"), ("store a:0:0", operands, ""),
                ("touch", NO_ADDRESSES, ""), ("set", names, "+ 1 1"), ("set x", ("", "/", "+-", ">", "=", "a", "0", "++", "<="), "1 1"),
                ("set x +", operands, "1"), ("set x + 1", operands, ""), ("tell", operands, ""), ("need", operands, ""), ("call", names, "")):
            for word in wrong:
                self.no_text(0, len(ahead.split(" ")), read_row, " ".join([ahead, word] + ([behind] if behind else [])))

    def test_the_first_of_several(self):
        self.no_text(0, 1, read_row, "set X / 01 -0 more")
        self.no_text(0, 2, read_row, "set x / 01 -0 more")
        self.no_text(0, 3, read_row, "set x + 01 -0 more")
        self.no_text(0, 4, read_row, "set x + 1 -0 more")
        self.no_text(0, 5, read_row, "set x + 1 0 more more")
        self.no_text(0, 1, read_row, "load X")

    def test_line_ends(self):
        self.no_text(0, 1, read_row, "tell 1\n")
        self.no_text(0, 1, read_row, "call sub\n")
        self.no_text(0, 2, read_row, "load x a:0:0\n")
        self.no_text(0, 0, read_row, "\ntell 1")

    def test_the_line_that_is_handed_in(self):
        for line in (0, 1, 7, -3, 10 ** 100):
            self.no_text(line, 0, read_row, "", line)
            self.no_text(line, 1, read_row, "tell", line)
            self.no_text(line, 1, read_row, "tell 01", line)
            self.no_text(line, 2, read_row, "tell 1 1", line)
            self.same(read_row("tell 1", line), ("tell", 1))

    def test_numbers(self):
        for number in (0, 1, -1, 9, 10, -10, 907, TWELVE, -TWELVE, 10 ** 11, -10 ** 11):
            self.same(read_row(f"tell {number}"), ("tell", number))
        for number in (TWELVE + 1, -TWELVE - 1, 10 ** 40, 10 ** 3000):
            self.no_text(0, 1, read_row, f"tell {number}")

    def test_by_name(self):
        self.same(read_row(text="tell 1", line=3), ("tell", 1))
        self.same(read_row(text="tell 1"), ("tell", 1))
        with self.assertRaises(NoText) as caught:
            read_row(line=3, text="tell")
        self.same((caught.exception.line, caught.exception.word), (3, 1))


class TestCode(ReadCase):
    LEAST = ["object a 1", "routine main", "back"]

    def no_code(self, line, word, *lines):
        self.no_text(line, word, read_code, "\n".join(lines))
        # One line end behind the last line is let be.
        if lines and lines[-1] != "":
            self.no_text(line, word, read_code, "\n".join(lines) + "\n")

    def test_what_is_written(self):
        for code in (CODE, LEAST, *[some_code(seed) for seed in range(80)]):
            self.same(self.untouched(read_code, shown_code(code)), code)
            self.same(self.untouched(read_code, shown_code(code) + "\n"), code)

    def test_beyond_the_bounds(self):
        many = tuple([("o" + chr(97 + k), TWELVE) for k in range(26)])
        blocks = tuple([(30 * (("tell", -TWELVE),), ("if", "x", k, 29 - k)) for k in range(30)])
        code = (many, (("main", blocks), ("zub", blocks)))
        self.same(read_code(shown_code(code)), code)

    def test_every_row_and_end(self):
        for code in (CODE, *[some_code(seed) for seed in range(40)]):
            for place in places_in(code):
                row = row_at(code, place)
                if row[0] not in ("go", "if", "back"):
                    self.same(read_row(shown_row(row)), row)

    def test_line_ends(self):
        text = "\n".join(self.LEAST)
        self.same(read_code(text), LEAST)
        self.same(read_code(text + "\n"), LEAST)
        self.no_text(3, 0, read_code, text + "\n\n")
        self.no_text(3, 0, read_code, text + "\n\n\n")
        self.no_text(0, 0, read_code, "\n" + text)
        self.no_text(1, 0, read_code, text.replace("\n", "\n\n", 1))

    def test_the_empty_text_and_line_ends_alone(self):
        self.no_text(0, 0, read_code, "")
        self.no_text(0, 0, read_code, "\n")
        self.no_text(0, 0, read_code, "\n\n")
        self.no_text(0, 0, read_code, " ")

    def test_a_line_without_signs(self):
        for at in range(len(self.LEAST)):
            self.no_code(at, 0, *self.LEAST[:at], "", *self.LEAST[at:])
            self.no_code(at, 0, *self.LEAST[:at], " ", *self.LEAST[at:])

    def test_first_words(self):
        for at in range(4):
            for word in ("x", "Object", "OBJECT", "objects", "routines", "-", "0", "main", "end", "|"):
                self.no_code(at, 0, *self.LEAST[:at], word, *self.LEAST[at:])
                self.no_code(at, 0, *self.LEAST[:at], word + " a 1", *self.LEAST[at:])

    def test_rows_and_ends_ahead_of_the_first_routine(self):
        for line in ("load x a:0:0", "store a:0:0 1", "touch a:0:0", "set x + 1 1", "tell 1", "need 1", "call sub", "go 0", "if x 0 0", "back"):
            self.no_code(0, 0, line, *self.LEAST)
            self.no_code(1, 0, self.LEAST[0], line, *self.LEAST[1:])
            self.no_code(0, 0, line)

    def test_object_lines(self):
        self.no_code(2, 0, "object a 1", "routine main", "object b 1", "back")
        self.no_code(3, 0, "object a 1", "routine main", "back", "object b 1")
        self.no_code(3, 0, "object a 1", "routine main", "tell 1", "object b 1", "back")
        self.no_code(1, 0, "routine main", "object a 1", "back")
        self.no_code(2, 0, "object a 1", "routine main", "object")

    def test_routine_lines_where_a_block_is_open(self):
        self.no_code(3, 0, "object a 1", "routine main", "tell 1", "routine sub", "back")
        self.no_code(5, 0, "object a 1", "routine main", "tell 1", "go 0", "tell 1", "routine sub", "back")
        self.no_code(3, 0, "object a 1", "routine main", "tell 1", "routine")
        code = read_code("\n".join(["object a 1", "routine main", "tell 1", "back", "routine sub", "back"]))
        self.same(code, ((("a", 1),), (("main", (((("tell", 1),), ("back",)),)), ("sub", (((), ("back",)),)))))

    def test_words_of_object_lines(self):
        self.no_code(0, 1, "object", "routine main", "back")
        self.no_code(0, 2, "object a", "routine main", "back")
        self.no_code(0, 3, "object a 1 1", "routine main", "back")
        self.no_code(0, 3, "object a 1 ", "routine main", "back")
        self.no_code(0, 1, "object  a 1", "routine main", "back")
        for word in NO_WORDS:
            if "\n" not in word:
                self.no_code(1, 1, "object a 1", f"object {word} 1", "routine main", "back")
        for word in NO_COUNTS + ("x", "size"):
            if "\n" not in word:
                self.no_code(1, 2, "object a 1", f"object b {word}", "routine main", "back")

    def test_words_of_routine_lines(self):
        self.no_code(1, 1, "object a 1", "routine", "back")
        self.no_code(1, 1, "object a 1", "routine ", "back")
        self.no_code(1, 2, "object a 1", "routine main main", "back")
        for word in NO_WORDS:
            if "\n" not in word:
                self.no_code(1, 1, "object a 1", f"routine {word}", "back")

    def test_words_of_rows(self):
        for text, word in (("load", 1), ("load x", 2), ("load X a:0:0", 1), ("load x a:0", 2), ("load x a:0:0 1", 3), ("store a:0:0", 2),
                           ("store a:0:-1 1", 1), ("store a:0:0 -0", 2), ("touch a,a:0:0", 1), ("set x + 1", 4), ("set x / 1 1", 2),
                           ("tell 1000000000000", 1), ("tell  1", 1), ("tell 1 ", 2), ("need", 1), ("need A", 1), ("call", 1), ("call 1", 1),
                           ("call sub sub", 2), (" tell 1", 0)):
            self.no_code(2, word, "object a 1", "routine main", text, "back")
            self.no_code(3, word, "object a 1", "routine main", "tell 1", text, "back")

    def test_words_of_ends(self):
        for text, word in (("go", 1), ("go x", 1), ("go -1", 1), ("go 00", 1), ("go 0 0", 2), ("go 1000000000000", 1), ("go ", 1), ("if", 1),
                           ("if x", 2), ("if x 0", 3), ("if X 0 0", 1), ("if -0 0 0", 1), ("if x -1 0", 2), ("if x y 0", 2), ("if x 0 -1", 3),
                           ("if x 0 01", 3), ("if x 0 0 0", 4), ("if  x 0 0", 1), ("back 0", 1), ("back ", 1), ("backs", 0)):
            self.no_code(2, word, "object a 1", "routine main", text, "back")
            self.no_code(3, word, "object a 1", "routine main", "tell 1", text)

    def test_the_first_line_goes(self):
        self.no_code(2, 1, "object a 1", "routine main", "tell", "nothing", "back")
        self.no_code(0, 2, "object a", "nothing")
        self.no_code(4, 0, "object a 1", "routine main", "tell 1", "back", "none", "tell")

    def test_lines_that_can_stand_and_are_no_code(self):
        for lines in (
                ["object a 1"],
                ["object a 1", "object b 1"],
                ["routine main"],
                ["routine main", "back"],
                ["object a 1", "routine main"],
                ["object a 0", "routine main", "back"],
                ["object b 1", "object a 1", "routine main", "back"],
                ["object a 1", "object a 1", "routine main", "back"],
                ["object a 1", "routine sub", "back"],
                ["object a 1", "routine main", "back", "routine main", "back"],
                ["object a 1", "routine sub", "back", "routine main", "back"],
                ["object a 1", "routine main", "routine sub", "back"],
                ["object a 1", "routine main", "back", "routine sub"],
                ["object a 1", "routine main", "go 1"],
                ["object a 1", "routine main", "if x 0 1"],
                ["object a 1", "routine main", "if x 999999999999 0"],
                ["object a 1", "routine main", "call sub", "back"],
                ["object a 1", "routine main", "call main", "back"],
                ["object a 1", "routine main", "touch b:0:0", "back"],
                ["object a 1", "routine main", "touch a:1:0", "back"],
                ["object a 1", "routine main", "touch a:0:1", "back"],
                ["object a 1", "object b 2", "routine main", "load x a,b:p:1", "back"],
                ["object a 1", "routine main", "store a:0:999999999999 1", "back"]):
            self.no_code(len(lines), 0, *lines)

    def test_a_block_that_is_open_at_the_end(self):
        self.no_code(3, 0, "object a 1", "routine main", "tell 1")
        self.no_code(4, 0, "object a 1", "routine main", "back", "tell 1")
        self.no_code(6, 0, "object a 1", "routine main", "back", "routine sub", "back", "call sub")

    def test_calls_of_routines_behind(self):
        text = "object a 1\nroutine main\ncall sub\nback\nroutine sub\ngo 1\ncall sub\nback"
        self.same(read_code(text), ((("a", 1),), (("main", (((("call", "sub"),), ("back",)),)),
                                                  ("sub", (((), ("go", 1)), ((("call", "sub"),), ("back",)))))))

    def test_one_sign_out(self):
        """Of each text with one sign exchanged or left out: it writes another CODE, or is refused; never anything else."""
        text = shown_code(code_of(((("load", "x", (("a", "b"), "p", 1)), ("set", "x", "-", "y", -10)), ("if", "x", 0, 1)), ((), ("back",)),
                                  sub=(((("call", "sub"),), ("back",)),)))
        for at in range(len(text)):
            for sign in ("", " ", "\n", "a", "0", "-", ":", ",", "="):
                other = text[:at] + sign + text[at + 1:]
                try:
                    code = read_code(other)
                except NoText as refusal:
                    lines = other.split("\n")
                    self.assertTrue(0 <= refusal.line <= len(lines))
                    if refusal.line < len(lines):
                        self.assertTrue(0 <= refusal.word <= len(lines[refusal.line].split(" ")))
                    continue
                self.assertTrue(is_code(code))
                self.same(shown_code(code), other.removesuffix("\n"))

    def test_by_name(self):
        self.same(read_code(text="\n".join(self.LEAST)), LEAST)


class TestStarts(ReadCase):
    STARTS = (
        ("-", ((), ())),
        ("x=0", ((("x", 0),), ())),
        ("abcdefgh=12 b=-1", ((("abcdefgh", 12), ("b", -1)), ())),
        ("a:0=5", ((), ((("a", 0), 5),))),
        ("a:0=0 a:9=1 a:10=-7 b:1=1000000000", ((), ((("a", 0), 0), (("a", 9), 1), (("a", 10), -7), (("b", 1), 10 ** 9)))),
        ("x=3 y=-4 a:0=5 b:1=6", ((("x", 3), ("y", -4)), ((("a", 0), 5), (("b", 1), 6)))),
        ("a=1 a:0=1", ((("a", 1),), ((("a", 0), 1),))),
        ("z=1 none:999999999999=-999999999999", ((("z", 1),), ((("none", TWELVE), -TWELVE),))),
    )

    def test_starts(self):
        for text, start in self.STARTS:
            self.same(self.untouched(read_start, text), start)
            self.same(shown_start(start), text)

    def test_what_is_written(self):
        for seed in range(60):
            self.same(read_start(shown_start(some_start(seed))), some_start(seed))

    def test_the_empty_one(self):
        self.no_text(0, 0, read_start, "- x=1")
        self.no_text(0, 0, read_start, "- a:0=1")
        self.no_text(0, 0, read_start, "- -")
        self.no_text(0, 0, read_start, "- ")
        self.no_text(0, 0, read_start, " -")
        self.no_text(0, 1, read_start, "x=1 -")
        self.no_text(0, 1, read_start, "a:0=1 - b:0=1")
        self.no_text(0, 0, read_start, "--")
        self.no_text(0, 0, read_start, "-\n")

    def test_without_signs(self):
        self.no_text(0, 0, read_start, "")
        self.no_text(0, 0, read_start, " ")
        self.no_text(0, 0, read_start, " x=1")
        self.no_text(0, 1, read_start, "x=1 ")
        self.no_text(0, 1, read_start, "x=1  y=1")

    def test_names_rise(self):
        self.no_text(0, 1, read_start, "b=1 a=1")
        self.no_text(0, 1, read_start, "a=1 a=1")
        self.no_text(0, 1, read_start, "a=1 a=2")
        self.no_text(0, 2, read_start, "a=1 c=1 b=1")
        self.no_text(0, 2, read_start, "a=1 b=1 a=1 a:0=1")

    def test_cells_rise(self):
        self.no_text(0, 1, read_start, "a:1=1 a:0=1")
        self.no_text(0, 1, read_start, "a:0=1 a:0=2")
        self.no_text(0, 1, read_start, "b:0=1 a:1=1")
        self.no_text(0, 1, read_start, "a:10=1 a:9=1")
        self.no_text(0, 3, read_start, "x=1 a:0=1 b:0=1 a:1=1")

    def test_names_ahead_of_cells(self):
        self.no_text(0, 1, read_start, "a:0=1 x=1")
        self.no_text(0, 2, read_start, "w=1 a:0=1 x=1 b:0=1")

    def test_each_word(self):
        for ahead in ((), ("a=1",), ("a=1", "a:0=1")):
            at = len(ahead)
            for number in NO_NUMBERS + ("x", "y=1", "=1"):
                self.no_text(0, at, read_start, " ".join([*ahead, "x=" + number]))
                self.no_text(0, at, read_start, " ".join([*ahead, "b:0=" + number]))
                self.no_text(0, at, read_start, " ".join([*ahead, "b:0=" + number, "none"]))
            for left in ("", "X", "x1", "abcdefghi", "1", "x,y", "x:", ":0", "x:y", "x:-1", "x:01", "x:0:0", "X:0", "x:1000000000000", "x:0\n",
                         "abcdefghi:0", "x :0", "\nx"):
                self.no_text(0, at, read_start, " ".join([*ahead, left + "=1"]))
            for word in ("x", "x:0", "x1", "x-1", "x:0:1", "=", "==", "x==1", "a:0:1=", "x=1\n", "x=1,"):
                self.no_text(0, at, read_start, " ".join([*ahead, word]))

    def test_by_name(self):
        self.same(read_start(text="-"), ((), ()))


class TestPlaces(ReadCase):
    PLACES = (("main:0:2", ("main", 0, 2)), ("abcdefgh:10:0", ("abcdefgh", 10, 0)), ("a:999999999999:999999999999", ("a", TWELVE, TWELVE)),
              ("none:0:0", ("none", 0, 0)))

    def test_places(self):
        for text, place in self.PLACES:
            self.same(self.untouched(read_place, text), place)
            self.same(shown_place(place), text)

    def test_what_is_written(self):
        for place in places_in(CODE):
            self.same(read_place(shown_place(place)), place)

    def test_a_word_that_is_none(self):
        for text in ("", " ", "main", "main:0", "main:0:", "main::0", ":0:0", "main:0:0:", "main:0:0:0", "Main:0:0", "abcdefghi:0:0", "1:0:0", "main:-1:0",
                     "main:0:-1", "main:-0:0", "main:01:0", "main:0:00", "main:x:0", "main:0:x", "main:1000000000000:0", "main:0:1000000000000",
                     "main:0:0\n", "\nmain:0:0", "main,sub:0:0", "main:0:0=1", "-", " main:0:0", "main: 0:0", "main :0:0", "main:0 :0"):
            self.no_text(0, 0, read_place, text)
        for number in NO_COUNTS:
            self.no_text(0, 0, read_place, f"main:{number}:0")
            self.no_text(0, 0, read_place, f"main:0:{number}")

    def test_too_many(self):
        for more in (" ", " x", " main:0:0", "  ", " 1 2"):
            self.no_text(0, 1, read_place, "main:0:0" + more)

    def test_by_name(self):
        self.same(read_place(text="main:0:0"), ("main", 0, 0))


if __name__ == "__main__":
    unittest.main()
