"""[90] to [92]: a desk that is told rows, and answers each with a text."""

import random
import unittest

from storeways.carrying import carry
from storeways.codes import places_in, places_with
from storeways.dead import dead
from storeways.desk import Desk
from storeways.errors import NoBack, NoCode, NoLine, NoPlace, NoTurning
from storeways.leaving import leave
from storeways.lines import shown_code, shown_place, shown_row, shown_start
from storeways.rereading import reread
from storeways.running import run
from storeways.shop import Shop
from storeways.sources import sources
from tests.samples import Case, busy_code, some_code, some_start, sure_code

LINES = ("object a 2", "object b 1", "routine main", "store a:0:0 7", "store a:0:0 8", "load x a:0:0", "call sub", "tell x", "back",
         "routine sub", "load y a:0:0", "load z a:0:i", "tell z", "back")
TEXT = " | ".join(LINES)
OTHER = "object a 1 | routine main | load x a:0:0 | tell x | back"
# Rows of each form but "code".
ROWS = ("edit " + OTHER, "put main:0:0 tell 1", "take main:0:0", "change main:0:0 tell 1", "left main:0:0", "carried main:0:2", "again main:0:2", "back", "back 1",
        "sources main:0:2", "dead", "reckoned", "text", "then 0", "edits", "run 10 -")


def desk_of(text=TEXT):
    """A desk with a shop of this CODE."""
    desk = Desk()
    desk.say("code " + text)
    return desk


class DeskCase(Case):
    def says(self, desk, *cases):
        """Each case is (row, answer)."""
        for row, want in cases:
            with self.subTest(row=row):
                self.same(desk.say(row), want)

    def no_line(self, desk, *rows):
        """Each is refused with the very row, and changes nothing."""
        before = None if desk.shop is None else (desk.say("text"), desk.say("edits"), desk.say("reckoned"))
        for row in rows:
            with self.subTest(row=row):
                self.refused(NoLine, {"row": row}, desk.say, row)
        if before is not None:
            self.same((desk.say("text"), desk.say("edits"), desk.say("reckoned")), before)

    def not_done(self, desk, error, field, want, *rows):
        """Each is refused with this error and field, and changes nothing."""
        before = (desk.say("text"), desk.say("edits"), desk.say("reckoned"))
        for row in rows:
            with self.subTest(row=row):
                with self.assertRaises(error) as caught:
                    desk.say(row)
                self.assertIs(caught.exception.__class__, error)
                self.same(getattr(caught.exception, field), want)
        self.same((desk.say("text"), desk.say("edits"), desk.say("reckoned")), before)


class TestForms(DeskCase):
    def test_without_a_shop(self):
        desk = Desk()
        self.no_line(desk, *ROWS, "code", "code ", "")
        self.says(desk, ("code " + TEXT, "ok"))

    def test_what_is_refused_makes_no_shop(self):
        desk = Desk()
        self.no_line(desk, "code object a 1", "text")

    def test_each_form(self):
        for row in ROWS:
            desk = desk_of()
            desk.say("put main:0:0 tell 1")
            try:
                self.assertIsInstance(desk.say(row), str)
            except (NoTurning, NoPlace):
                pass

    def test_a_blank_more(self):
        desk = desk_of()
        for row in (*ROWS, "code " + OTHER):
            self.no_line(desk, " " + row, row + " ", row.replace(" ", "  ", 1) if " " in row else row + "  ", row + "  ")
            if " " in row:
                self.no_line(desk, row[::-1].replace(" ", "  ", 1)[::-1])

    def test_a_word_fewer_or_more(self):
        desk = desk_of()
        self.no_line(desk, "", "code", "edit", "put", "take", "change", "left", "carried", "again", "sources", "then", "run", "code ", "edit ", "put ", "take ", "left ", "carried ",
                     "again ", "back ", "sources ", "then ", "run ", "put main:0:0", "put main:0:0 ", "put main:0:0 tell", "put tell 1", "change main:0:0", "change tell 1", "run 10",
                     "run 10 ", "run -", "take main:0:0 main:0:0", "left main:0:0 x", "carried main:0:2 x", "again main:0:2 y", "back 1 1", "sources main:0:2 a:0", "dead 1", "dead -",
                     "reckoned 0", "text 0", "then 0 0", "edits 0", "run 10 - -", "run 10 - x=1", "put main:0:0 tell 1 2")

    def test_other_words(self):
        desk = desk_of()
        self.no_line(desk, "Code " + OTHER, "codes " + OTHER, "say", "turn main:0:0", "shop", "put_row main:0:0 tell 1", "CODE", "deads", "-", "|", "back1", "text|", "len", "x" * 4000)

    def test_places(self):
        desk = desk_of()
        for place in ("main", "main:0", "main:0:0:0", "main:0:", ":0:0", "main:00:0", "main:0:01", "main:-1:0", "main:0:-0", "main:a:0", "Main:0:0", "abcdefghi:0:0", "main:0,0",
                      "main:0:1000000000000", "main:0:+1", "(main,0,0)", "a1:0:0"):
            self.no_line(desk, "put " + place + " tell 1", "take " + place, "change " + place + " tell 1", "left " + place, "carried " + place, "again " + place, "sources " + place)

    def test_rows(self):
        desk = desk_of()
        for row in ("back", "go 0", "if x 0 0", "tell", "tell 1 2", "tell 01", "tell X", "load x a:0", "load x a:0:0:0", "store a:0:0", "set x / 1 1", "call", "call a:0", "nothing", "object a 1",
                    "routine main", "tell 1000000000000", "tell --1", "load 1 a:0:0", "touch a,a:0:0", "touch a:-1:0", "tell 1 |", "tell 1 | tell 2", "tell 1\n"):
            self.no_line(desk, "put main:0:0 " + row, "change main:0:0 " + row)

    def test_numbers(self):
        desk = desk_of()
        for number in ("-1", "01", "00", "+1", "x", "1.0", "1000000000000", "1,0", "-0", "0x1", "True", "None", "1\n"):
            self.no_line(desk, "back " + number, "then " + number, "run " + number + " -")
        # Twelve figures are let be.
        self.not_done(desk, NoBack, "times", 999999999999, "back 999999999999", "then 999999999999")
        self.says(desk, ("run 999999999999 -", "ends 8,8 a:0=8 a:1=0 b:0=0"))

    def test_starts(self):
        desk = desk_of()
        for start in ("", "x", "x=", "=1", "x=01", "x=1 x=1", "y=1 x=1", "a:0=1 x=1", "a:1=1 a:0=1", "a:0=1 a:0=1", "x=1  y=1", "- x=1", "x=1 -", "--", "X=1", "a:-1=1", "a:00=1", "x=1000000000000",
                      "a:0", "a:0:0=1", "x=y", "x=1,y=1", "x=1\n"):
            self.no_line(desk, "run 10 " + start)

    def test_code(self):
        desk = desk_of()
        for text in ("", "object a 1", "object a 1 | routine main", "object a 1 | routine main | tell 1", "routine main | back", "object a 0 | routine main | back", "object a 1|routine main|back",
                     "object a 1 |routine main | back", "object a 1 | routine main | back |", "object a 1 | routine main | back |  | ", "object a 1 |  | routine main | back",
                     " | object a 1 | routine main | back", "object a 1 | routine main | back | | ", "object a 1\nroutine main\nback", "object a 1 | routine main\nback", "object a 1 | routine main | go 1",
                     "object a 1 | routine main | call sub | back", "object a 1 | routine sub | back", "object a 1 | routine main | load x b:0:0 | back", "object b 1 | object a 1 | routine main | back",
                     "object a 1 | routine main | back\n", "object a 1 | routine main | back | \n", "object a 1 | routine main | BACK", "object a 1 | routine main | back | object b 1",
                     "object a 1000000000000 | routine main | back", "|", " | ", "-"):
            self.no_line(desk, "code " + text, "edit " + text)

    def test_a_bar_behind_the_last_line(self):
        desk = Desk()
        self.says(desk, ("code " + OTHER + " | ", "ok"), ("text", OTHER), ("edit " + TEXT + " | ", "main sub"), ("text", TEXT), ("edits", "code"))

    def test_of_the_form_whatever_code_there_is(self):
        desk = desk_of()
        self.not_done(desk, NoPlace, "place", ("none", 9, 99), "put none:9:99 tell 1", "take none:9:99", "change none:9:99 tell 1", "sources none:9:99", "put none:9:99 call none")
        self.not_done(desk, NoTurning, "word", "place", "left none:9:99", "carried none:9:99", "again none:9:99")
        self.not_done(desk, NoCode, "word", "row", "put main:0:0 call none", "put main:0:0 call main", "put main:0:0 load x d:0:0", "change main:0:0 touch a:0:2", "put main:0:0 store b:1:0 1")

    def test_by_name(self):
        self.same(Desk().say(row="code " + TEXT), "ok")


class TestEdits(DeskCase):
    def test_code_makes_a_new_shop(self):
        desk = desk_of()
        self.says(desk, ("put main:0:0 tell 1", "main"), ("edits", "put"), ("code " + OTHER, "ok"), ("edits", "-"), ("text", OTHER), ("reckoned", "-"), ("then 0", OTHER))

    def test_edits(self):
        desk = desk_of()
        # main's stores come to stand at other PLACES, but nobody calls main.
        self.says(desk, ("put main:0:0 tell 1", "main"), ("take main:0:0", "main"), ("text", TEXT), ("change main:0:4 tell y", "main"), ("edits", "put take change"), ("reckoned", "main"))
        self.says(desk, ("put sub:0:0 store b:0:0 1", "main sub"), ("reckoned", "main sub"), ("put sub:0:1 tell 1", "sub"), ("reckoned", "sub"))
        self.says(desk, ("change sub:0:1 tell 1", "-"), ("reckoned", "-"), ("edits", "put take change put put change"))

    def test_ahead_of_an_end(self):
        desk = desk_of(OTHER)
        self.says(desk, ("put main:0:2 store a:0:0 -5", "main"), ("text", "object a 1 | routine main | load x a:0:0 | tell x | store a:0:0 -5 | back"))

    def test_an_end_is_not_a_row(self):
        desk = desk_of(OTHER)
        self.no_line(desk, "change main:0:2 back", "change main:0:2 go 0", "change main:0:0 back", "put main:0:2 go 0")
        self.not_done(desk, NoCode, "word", "row", "change main:0:2 tell 1")
        self.not_done(desk, NoPlace, "place", ("main", 0, 2), "take main:0:2")

    def test_edit(self):
        desk = desk_of()
        self.says(desk, ("edit " + TEXT, "-"), ("edit " + OTHER, "main"), ("text", OTHER), ("edit " + TEXT, "main sub"), ("edits", "code code code"), ("back 2", "code code"), ("text", TEXT))

    def test_turnings(self):
        desk = desk_of()
        self.says(desk, ("left main:0:0", "main"), ("dead", "-"), ("edits", "turn"))
        self.same(desk.say("text"), TEXT.replace("store a:0:0 7 | ", ""))
        turning = carry(desk.shop.code_now(), ("main", 0, 1))
        self.says(desk, ("carried main:0:1", "main"))
        name = turning[2]
        self.same(desk.say("text"), TEXT.replace("store a:0:0 7 | ", "").replace("store a:0:0 8 | load x a:0:0", "set " + name + " + 8 0 | store a:0:0 8 | set x + " + name + " 0"))
        desk.say("back")
        turning = reread(desk.shop.code_now(), ("sub", 0, 0))
        self.same(turning[2], "x")
        self.says(desk, ("again sub:0:0", "sub"), ("edits", "turn turn"))
        self.same(desk.say("text"), TEXT.replace("store a:0:0 7 | ", "").replace("load y a:0:0", "set y + x 0"))

    def test_turnings_refused(self):
        desk = desk_of()
        self.not_done(desk, NoTurning, "word", "place", "left main:0:2", "left main:0:5", "left main:9:0", "carried main:0:0", "carried sub:0:1", "carried none:0:0", "again main:0:0", "again sub:0:1",
                      "again sub:0:9")
        self.not_done(desk, NoTurning, "word", "live", "left main:0:1")
        self.not_done(desk, NoTurning, "word", "holds", "again main:0:2")
        desk = desk_of("object a 1 | routine main | load x a:0:0 | back | load x a:0:0 | back")
        self.not_done(desk, NoTurning, "word", "sources", "carried main:0:0", "carried main:1:0")
        self.not_done(desk, NoTurning, "word", "met", "again main:1:0")

    def test_all_cells_are_shown(self):
        desk = desk_of("object a 1 | routine main | store a:0:0 1 | back")
        self.says(desk, ("dead", "-"))
        self.not_done(desk, NoTurning, "word", "live", "left main:0:0")
        # Also of CODE with other OBJECTS than it had.
        desk.say("edit object d 1 | routine main | store d:0:0 1 | back")
        self.says(desk, ("dead", "-"))
        self.not_done(desk, NoTurning, "word", "live", "left main:0:0")

    def test_back(self):
        desk = desk_of()
        self.not_done(desk, NoBack, "times", 1, "back", "back 1")
        self.not_done(desk, NoBack, "times", 0, "back 0")
        self.not_done(desk, NoBack, "times", 7, "back 7")
        for row in ("put sub:0:0 tell 1", "take sub:0:0", "change main:0:4 tell 1", "edit " + OTHER, "put main:0:0 tell 1"):
            desk.say(row)
        self.not_done(desk, NoBack, "times", 6, "back 6")
        self.says(desk, ("back", "put"), ("back 2", "code change"), ("edits", "put take"), ("reckoned", "sub"), ("text", TEXT), ("back 2", "take put"), ("edits", "-"), ("reckoned", "-"))


class TestAnswers(DeskCase):
    def test_sources(self):
        desk = desk_of()
        self.says(desk, ("sources main:0:2", "main:0:1"), ("sources sub:0:0", "main:0:1"), ("sources sub:0:1", "START main:0:1"))
        self.says(desk_of(OTHER), ("sources main:0:0", "START"))
        self.says(desk_of("object a 1 | routine main | back | load x a:0:0 | back"), ("sources main:1:0", "-"))
        self.not_done(desk, NoPlace, "place", ("main", 0, 0), "sources main:0:0")

    def test_dead(self):
        self.says(desk_of(), ("dead", "main:0:0"))
        self.says(desk_of(OTHER), ("dead", "-"))
        self.says(desk_of("object a 1 | routine main | store a:0:0 1 | store a:0:0 2 | store a:0:0 3 | back"), ("dead", "main:0:0 main:0:1"))

    def test_then(self):
        desk = desk_of(OTHER)
        desk.say("put main:0:0 tell 5")
        desk.say("edit " + TEXT)
        self.says(desk, ("then 0", OTHER), ("then 1", OTHER.replace("main |", "main | tell 5 |")), ("then 2", TEXT))
        self.not_done(desk, NoBack, "times", 3, "then 3")

    def test_run(self):
        desk = desk_of()
        self.says(desk, ("run 10 i=1 a:1=5 b:0=-2", "ends 5,8 a:0=8 a:1=5 b:0=-2"), ("run 10 i=2", "fault -"), ("run 1 -", "fuel -"),
                  ("run 0 -", "fuel -"), ("run 2 i=0", "ends 8,8 a:0=8 a:1=0 b:0=0"))
        desk = desk_of("object a 1 | routine main | tell x | tell -3 | need y | back")
        self.says(desk, ("run 5 x=12 y=1", "ends 12,-3 a:0=0"), ("run 5 -", "fault 0,-3"), ("run 0 -", "fuel -"))
        desk = desk_of("object a 1 | routine main | back")
        self.says(desk, ("run 1 -", "ends - a:0=0"), ("run 1 a:0=999999999999", "ends - a:0=999999999999"))
        desk = desk_of("object a 1 | routine main | tell 1 | go 0")
        self.says(desk, ("run 3 -", "fuel 1,1,1"))

    def test_a_start_with_cells_that_the_code_has_not(self):
        desk = desk_of(OTHER)
        self.says(desk, ("run 1 a:1=4 b:0=5", "ends 0 a:0=0 a:1=4 b:0=5"), ("run 1 a:0=3 aa:7=-1", "ends 3 a:0=3 aa:7=-1"), ("run 0 z:0=1", "fuel -"))
        # No ROW comes to them.
        desk = desk_of("object b 1 | routine main | load x b:p:i | tell x | back")
        self.says(desk, ("run 1 i=1 b:1=5", "fault -"), ("run 1 a:0=4 b:0=7", "ends 7 a:0=4 b:0=7"))

    def test_long_numbers(self):
        desk = desk_of("object a 1 | routine main | set x * x x | if y 0 1 | tell x | store a:0:0 x | back")
        self.says(desk, ("run 6 x=10", "ends 100 a:0=100"))
        desk = desk_of("object a 1 | routine main | set x * x x | set x * x x | set x * x x | set x * x x | set x * x x | set x * x x | set x * x x | set x * x x | tell x | store a:0:0 x | back")
        number = "1" + "0" * (11 * 256)
        self.says(desk, ("run 1 x=100000000000", "ends " + number + " a:0=" + number))

    def test_against_the_shop_and_the_functions(self):
        for seed in range(30):
            chance = random.Random(seed)
            code = (busy_code, sure_code, some_code)[seed % 3](seed)
            desk, shop = desk_of(shown_code(code).replace("\n", " | ")), Shop(code)
            for _ in range(8):
                code = shop.code_now()
                place = chance.choice(places_in(code))
                at = shown_place(place)
                row = chance.choice((("tell", 1), ("load", "x", (("a",), 0, 0)), ("store", (("a",), 0, "i"), "x"), ("store", (("c",), 0, 0), -1)))
                deeds = ((f"put {at} {shown_row(row)}", lambda: shop.put_row(place, row)), (f"take {at}", lambda: shop.take_row(place)),
                         (f"change {at} {shown_row(row)}", lambda: shop.change_row(place, row)), (f"left {at}", lambda: shop.turn(leave(code, place))),
                         (f"carried {at}", lambda: shop.turn(carry(code, place))), (f"again {at}", lambda: shop.turn(reread(code, place))), ("back", lambda: shop.back()))
                self.alike(desk, *chance.choice(deeds))
                code = shop.code_now()
                self.says(desk, ("text", shown_code(code).replace("\n", " | ")), ("edits", " ".join(shop.edits()) or "-"), ("reckoned", " ".join(shop.reckoned()) or "-"),
                          ("dead", " ".join([shown_place(one) for one in dead(code)]) or "-"))
                for one in places_with(code, "load")[:2]:
                    self.says(desk, ("sources " + shown_place(one), " ".join(["START" if source is None else shown_place(source) for source in sources(code, one)]) or "-"))
                start, fuel = some_start(chance.randrange(99)), chance.randrange(9)
                outcome = run(code, start, fuel)
                words = [outcome[0], ",".join(map(str, outcome[1])) or "-", *([shown_start(((), outcome[2]))] if outcome[0] == "ends" else [])]
                self.says(desk, (f"run {fuel} {shown_start(start)}", " ".join(words)))

    def alike(self, desk, row, deed):
        """The desk answers with the words that the shop tells, or refuses as it does."""
        try:
            want = deed()
        except (NoPlace, NoTurning, NoCode, NoBack) as refusal:
            with self.assertRaises(refusal.__class__) as caught:
                desk.say(row)
            self.same(vars(caught.exception), vars(refusal))
        else:
            self.same(desk.say(row), " ".join(want) or "-")

    def test_desks_know_nothing_of_one_another(self):
        one, other = desk_of(), Desk()
        self.no_line(other, "text")
        self.same(other.say("code " + OTHER), "ok")
        one.say("put main:0:0 tell 1")
        self.says(other, ("edits", "-"), ("text", OTHER))
        other.say("take main:0:0")
        self.says(one, ("edits", "put"), ("back", "put"), ("text", TEXT))
        self.says(other, ("edits", "take"))


if __name__ == "__main__":
    unittest.main()
