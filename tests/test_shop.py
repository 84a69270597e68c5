"""[76] to [80]: a shop, its EDITS, what is RECKONED AGAIN, and what it tells."""

import random
import unittest
import unittest.mock

from storeways.carrying import carry
from storeways.codes import END_FORMS, is_code, places_in, places_with, routines_of, row_at
from storeways.dead import dead
from storeways.errors import NoBack, NoCode, NoPaper, NoPlace, NoRoutine
from storeways.faces import cells_in
from storeways.leaving import leave
from storeways.lines import shown_code
from storeways.passing import standing_of, summary
from storeways.rereading import reread
from storeways.shop import Shop
from storeways.sources import sources
from storeways.turnings import turned
from tests.samples import (
    A0, A1, ANY_A, BACK, CELL, CODE, LEAST, LOAD, M, OBJECTS, STORE, STRANGE, TELL, Case, block, busy_code, busy_end,
    call, code_of, some_code, sure_code,
)

S = [("sub", 0, k) for k in range(8)]
Z = [("zub", 0, k) for k in range(8)]
ODD_PLACES = (*STRANGE, ("main", 0, True), ("main", False, 0), ["main", 0, 0], ("main", 0), ("none", 0, 0), ("main", 9, 0), ("main", 0, -1), ("main", 0, 9), CELL, 0, "main")
NO_NUMBERS = (None, True, False, "1", "", "a", (), (1,), [1], [], "-", ((),))

# main calls sub, sub calls zub; zub stores, what is put in ahead of that moves it.
CHAIN = code_of(block(("call", "sub"), LOAD, BACK), sub=(block(TELL, ("call", "zub"), BACK),), zub=(block(STORE, TELL, BACK),))
# sub and zub call one another, main and aub call sub, zub calls yub.
RING = code_of(block(("call", "sub"), BACK), aub=(block(("call", "sub"), BACK),), sub=(block(("if", "x", 1, 2)), block(("call", "zub"), BACK), block(BACK)),
               yub=(block(TELL, BACK),), zub=(block(("call", "yub"), ("call", "sub"), BACK),))


def called_by(code, name):
    """All routines to which a routine comes by one "call"."""
    return {row[1] for rows, end in dict(code[1])[name] for row in rows if row[0] == "call"}


def ring_of(code, name):
    """The RING of a routine, a set."""
    def after(first):
        seen, todo = set(), [first]
        while todo:
            for other in called_by(code, todo.pop()) - seen:
                seen.add(other)
                todo.append(other)
        return seen
    return {name} | {other for other in after(name) if name in after(other)}


def summaries(code, name):
    return [(cell, summary(code, name, cell)) for cell in cells_in(code)]


def again_by_words(older, newer):
    """All routines that are RECKONED AGAIN, by the words of [76]; SUMMARIES are those that are told of both CODES."""
    if older[0] != newer[0]:
        return routines_of(newer)
    found = set()
    for name in routines_of(newer):
        ring = ring_of(newer, name)
        out = {called for one in ring for called in called_by(newer, one)} - ring
        if any([dict(older[1]).get(one) != dict(newer[1])[one] for one in ring]):
            found.add(name)
        elif any([summaries(older, called) != summaries(newer, called) for called in out]):
            found.add(name)
    return tuple(sorted(found))


class ShopCase(Case):
    def tells(self, shop):
        """What it tells of its CODE is what the functions tell."""
        code = shop.code_now()
        self.assertTrue(is_code(code))
        for cell in cells_in(code):
            for name in routines_of(code):
                self.same(shop.summary_of(name, cell), summary(code, name, cell))
        for place in places_with(code, "load"):
            self.same(shop.sources_of(place), sources(code, place))
            for cell in cells_in(code)[:3]:
                self.same(shop.sources_of(place, cell), sources(code, place, cell))
        self.same(shop.dead_now(), dead(code, shop.shown))
        self.same(str(shop), shown_code(code))
        self.same(shop.then(len(shop)), code)
        self.same(len(shop.edits()), len(shop))

    def edited(self, shop, want, word, deed, *things):
        """The EDIT comes to this CODE, and what is RECKONED AGAIN is told as the words have it."""
        older, many, edits = shop.code_now(), len(shop), shop.edits()
        told = getattr(shop, deed)(*things)
        self.same(shop.code_now(), want)
        self.same(told, again_by_words(older, want))
        self.same(shop.reckoned(), told)
        self.same(len(shop), many + 1)
        self.same(shop.edits(), (*edits, word))
        self.same(shop.then(many), older)
        self.tells(shop)
        return told

    def not_done(self, shop, error, fields, deed, *things):
        """It is refused, and nothing is otherwise."""
        before = (shop.code_now(), shop.edits(), shop.reckoned(), str(shop), shop.dead_now())
        self.refused(error, fields, getattr(shop, deed), *things)
        self.same((shop.code_now(), shop.edits(), shop.reckoned(), str(shop), shop.dead_now()), before)

    def no_code(self, shop, word, deed, *things):
        before = (shop.code_now(), shop.edits(), shop.reckoned())
        with self.assertRaises(NoCode) as caught:
            getattr(shop, deed)(*things)
        self.same(caught.exception.word, word)
        self.same((shop.code_now(), shop.edits(), shop.reckoned()), before)


class TestMade(ShopCase):
    def test_as_it_is_made(self):
        for code in (LEAST, CODE, CHAIN, RING):
            for shown in (None, (), cells_in(code)[:1], cells_in(code)):
                shop = Shop(code, shown)
                self.same((shop.code_now(), shop.edits(), shop.reckoned(), len(shop), shop.then(0)), (code, (), (), 0, code))
                self.tells(shop)

    def test_shown(self):
        for shown in ((("a", 3),), (("a", 0), ("d", 0)), (("b", 2),), (("a", True),), (("a", False),), (("a", -1),), (("none", 0),), (None,), (("a",),)):
            with self.assertRaises(NoCode) as caught:
                Shop(CODE, shown)
            self.same(caught.exception.word, "shown")

    def test_dead_ones_by_what_is_shown(self):
        code = code_of(block(STORE, ("store", A1, 1), BACK))
        for shown, want in ((None, ()), ((), (M[0], M[1])), ((CELL,), (M[1],)), ((("a", 1),), (M[0],))):
            self.same(Shop(code, shown).dead_now(), want)

    def test_by_name(self):
        shop = Shop(shown=(), code=CODE)
        self.same((shop.code_now(), shop.shown), (CODE, ()))
        self.same(Shop(CODE).shown, None)


class TestPut(ShopCase):
    def test_ahead_of_each_place(self):
        for place in places_in(CHAIN):
            name, number, at = place
            rows, end = dict(CHAIN[1])[name][number]
            newer = {**dict(CHAIN[1]), name: (((*rows[:at], ("need", 1), *rows[at:]), end),)}
            self.edited(Shop(CHAIN), (OBJECTS, tuple(sorted(newer.items()))), "put", "put_row", place, ("need", 1))

    def test_ahead_of_an_end(self):
        shop = Shop(LEAST)
        self.same(self.edited(shop, ((("a", 1),), (("main", (((TELL,), BACK),)),)), "put", "put_row", M[0], TELL), ("main",))
        self.same(self.edited(shop, ((("a", 1),), (("main", (((TELL, LOAD), BACK),)),)), "put", "put_row", M[1], LOAD), ("main",))

    def test_other_blocks_stay(self):
        code = code_of(block(("if", "x", 1, 2)), block(TELL, ("go", 2)), block(BACK))
        self.edited(Shop(code), code_of(block(("if", "x", 1, 2)), block(TELL, STORE, ("go", 2)), block(BACK)), "put", "put_row", ("main", 1, 1), STORE)

    def test_a_row_that_turns_a_summary(self):
        shop = Shop(CHAIN)
        self.same(shop.put_row(Z[1], ("store", A1, 1)), ("main", "sub", "zub"))
        # It stands now at another PLACE, so each SUMMARY that has it is otherwise.
        self.same(shop.put_row(Z[0], TELL), ("main", "sub", "zub"))
        self.tells(shop)

    def test_a_row_that_turns_none(self):
        shop = Shop(CHAIN)
        self.same(shop.put_row(Z[1], TELL), ("zub",))
        self.same(shop.put_row(S[0], TELL), ("sub",))
        self.same(shop.put_row(M[0], STORE), ("main",))
        self.same(shop.put_row(Z[0], ("store", (("b",), 0, 0), 1)), ("main", "sub", "zub"))
        # Its own SUMMARY is otherwise, but not that of the routine between.
        code = code_of(block(call(), BACK), sub=(block(call("zub"), STORE, BACK),), zub=(block(BACK),))
        shop = Shop(code)
        self.same(shop.put_row(Z[0], STORE), ("sub", "zub"))
        self.tells(shop)

    def test_where_nothing_comes_to(self):
        code = code_of(block(call(), BACK), sub=(block(BACK), block(TELL, BACK)))
        shop = Shop(code)
        self.same(shop.put_row(("sub", 1, 0), STORE), ("sub",))
        self.tells(shop)

    def test_a_call_put_in_and_taken_out(self):
        shop = Shop(code_of(block(call(), BACK), aub=(block(BACK),), sub=(block(BACK),), zub=(block(STORE, BACK),)))
        self.same(shop.put_row(S[0], call("zub")), ("main", "sub"))
        self.tells(shop)
        self.same(shop.put_row(("zub", 0, 1), call("aub")), ("zub",))
        self.same(shop.put_row(("aub", 0, 0), STORE), ("aub", "main", "sub", "zub"))
        self.tells(shop)
        self.same(shop.take_row(S[0]), ("main", "sub"))
        self.tells(shop)

    def test_a_call_of_itself(self):
        shop = Shop(code_of(block(call(), BACK), sub=(block(BACK),)))
        self.same(shop.put_row(S[0], call()), ("main", "sub"))
        self.same(shop.summary_of("sub", CELL), ((), False))
        self.tells(shop)

    def test_refused(self):
        shop = Shop(CHAIN)
        for place in ODD_PLACES:
            self.not_done(shop, NoPlace, {"place": place}, "put_row", place, TELL)
            self.not_done(shop, NoPlace, {"place": place}, "put_row", place, None)
        for row in (*STRANGE, BACK, ("go", 0), ("if", "x", 0, 0), ("tell",), ("tell", True), ("call", "main"), ("call", "none"), ["tell", 1], ("load", "x", (("a",), 0, 3)),
                    ("load", "x", (("d",), 0, 0)), ("store", A0), ("load", "x", (["a"], 0, 0))):
            for place in (M[0], M[2], S[1]):
                self.no_code(shop, "row", "put_row", place, row)

    def test_by_name(self):
        shop = Shop(LEAST)
        self.same(shop.put_row(row=TELL, place=M[0]), ("main",))


class TestTake(ShopCase):
    def test_each_row(self):
        for place in places_in(CHAIN):
            name, number, at = place
            rows, end = dict(CHAIN[1])[name][number]
            if at < len(rows):
                newer = {**dict(CHAIN[1]), name: (((*rows[:at], *rows[at + 1:]), end),)}
                self.edited(Shop(CHAIN), (OBJECTS, tuple(sorted(newer.items()))), "take", "take_row", place)

    def test_until_none_is_left(self):
        shop = Shop(code_of(block(TELL, STORE, LOAD, BACK)))
        for rows in ((STORE, LOAD), (LOAD,), ()):
            self.edited(shop, code_of(block(*rows, BACK)), "take", "take_row", M[0])
        self.not_done(shop, NoPlace, {"place": M[0]}, "take_row", M[0])

    def test_refused(self):
        shop = Shop(CHAIN)
        for place in (*ODD_PLACES, M[2], S[2], Z[2], M[3]):
            self.not_done(shop, NoPlace, {"place": place}, "take_row", place)

    def test_by_name(self):
        shop = Shop(code_of(block(TELL, BACK)))
        self.same(shop.take_row(place=M[0]), ("main",))


class TestChange(ShopCase):
    def test_rows(self):
        shop = Shop(CHAIN)
        code = code_of(block(call(), ("tell", "x"), BACK), sub=(block(TELL, call("zub"), BACK),), zub=(block(STORE, TELL, BACK),))
        self.same(self.edited(shop, code, "change", "change_row", M[1], ("tell", "x")), ("main",))
        code = code_of(block(call(), ("tell", "x"), BACK), sub=(block(TELL, call("zub"), BACK),), zub=(block(("store", ANY_A, 0), TELL, BACK),))
        self.same(self.edited(shop, code, "change", "change_row", Z[0], ("store", ANY_A, 0)), ("main", "sub", "zub"))
        code = code_of(block(call(), ("tell", "x"), BACK), sub=(block(TELL, call("zub"), BACK),), zub=(block(("store", ANY_A, 5), TELL, BACK),))
        self.same(self.edited(shop, code, "change", "change_row", Z[0], ("store", ANY_A, 5)), ("zub",))

    def test_ends(self):
        shop = Shop(CHAIN)
        code = code_of(block(call(), LOAD, BACK), sub=(block(TELL, call("zub"), BACK),), zub=(block(STORE, TELL, ("go", 0)),))
        self.same(self.edited(shop, code, "change", "change_row", Z[2], ("go", 0)), ("main", "sub", "zub"))
        self.same(shop.summary_of("main", CELL), ((), False))
        self.edited(shop, CHAIN, "change", "change_row", Z[2], BACK)
        code = code_of(block(("if", "x", 1, 2)), block(BACK), block(BACK))
        self.edited(Shop(code), code_of(block(("if", "y", 2, 2)), block(BACK), block(BACK)), "change", "change_row", M[0], ("if", "y", 2, 2))

    def test_by_which_nothing_comes_to_be_otherwise(self):
        shop = Shop(CHAIN)
        for place in places_in(CHAIN):
            self.same(self.edited(shop, CHAIN, "change", "change_row", place, row_at(CHAIN, place)), ())
        self.same(len(shop), len(places_in(CHAIN)))

    def test_refused(self):
        shop = Shop(CHAIN)
        for place in ODD_PLACES:
            self.not_done(shop, NoPlace, {"place": place}, "change_row", place, TELL)
            self.not_done(shop, NoPlace, {"place": place}, "change_row", place, True)
        for row in (*STRANGE, BACK, ("go", 0), ("if", "x", 0, 0), ("tell",), ("call", "main"), ["tell", 1], ("tell", True)):
            self.no_code(shop, "row", "change_row", M[0], row)
        for end in (*STRANGE, TELL, call(), ("go", 1), ("go", True), ("go", -1), ("if", "x", 0, 1), ("if", "x", False, 0), ("if", None, 0, 0), ["back"], ("back", 0), ("go",)):
            self.no_code(shop, "row", "change_row", M[2], end)
        # An END fits to the routine that has it.
        code = code_of(block(BACK), block(BACK), sub=(block(BACK),))
        self.no_code(Shop(code), "row", "change_row", S[0], ("go", 1))
        self.same(Shop(code).change_row(M[0], ("go", 1)), ("main",))

    def test_by_name(self):
        self.same(Shop(LEAST).change_row(row=("go", 0), place=M[0]), ("main",))


class TestCode(ShopCase):
    def test_other_code(self):
        shop = Shop(CHAIN)
        for code in (RING, CODE, CHAIN, LEAST, CHAIN):
            self.edited(shop, code, "code", "take_code", code)

    def test_the_same_code(self):
        self.same(self.edited(Shop(CHAIN), CHAIN, "code", "take_code", CHAIN), ())

    def test_objects_otherwise(self):
        shop = Shop(RING)
        for objects in ((*OBJECTS, ("d", 1)), (("a", 3), ("b", 2), ("c", 2)), OBJECTS):
            code = (objects, RING[1])
            self.same(self.edited(shop, code, "code", "take_code", code), ("aub", "main", "sub", "yub", "zub"))

    def test_routines_that_are_new_or_gone(self):
        shop = Shop(CHAIN)
        code = code_of(*dict(CHAIN[1])["main"], sub=dict(CHAIN[1])["sub"], zub=dict(CHAIN[1])["zub"], aub=(block(call(), BACK),))
        self.same(self.edited(shop, code, "code", "take_code", code), ("aub",))
        self.same(self.edited(shop, CHAIN, "code", "take_code", CHAIN), ())
        code = code_of(block(BACK), zub=dict(CHAIN[1])["zub"])
        self.same(self.edited(shop, code, "code", "take_code", code), ("main",))

    def test_refused(self):
        shop = Shop(CHAIN)
        for code in (*STRANGE, list(CHAIN), CHAIN[:1], (OBJECTS, ()), CHAIN + ((),), (OBJECTS, (("sub", (block(BACK),)),)), (list(OBJECTS), CHAIN[1]), code_of(block(("go", True)))):
            self.no_code(shop, "code", "take_code", code)

    def test_shown(self):
        shop = Shop(CHAIN, (CELL, ("c", 0)))
        self.no_code(shop, "shown", "take_code", LEAST)
        self.no_code(shop, "shown", "take_code", ((("a", 3), ("b", 1)), CHAIN[1]))
        self.no_code(shop, "code", "take_code", ((("a", 0),), LEAST[1]))
        other = ((("a", 2), ("c", 1)), CHAIN[1])
        self.edited(shop, other, "code", "take_code", other)
        # With None all CELLS are SHOWN of the CODE that it has then.
        shop = Shop(CHAIN)
        self.edited(shop, LEAST, "code", "take_code", LEAST)
        self.edited(Shop(CHAIN, ()), LEAST, "code", "take_code", LEAST)
        store = ((("d", 1),), (("main", (block(("store", (("d",), 0, 0), 1), BACK),)),))
        shop = Shop(LEAST)
        shop.take_code(store)
        self.same(shop.dead_now(), ())
        shop = Shop(LEAST, ())
        shop.take_code(store)
        self.same(shop.dead_now(), (M[0],))

    def test_by_name(self):
        self.same(Shop(LEAST).take_code(code=CHAIN), ("main", "sub", "zub"))


class TestTurn(ShopCase):
    code = code_of(block(STORE, STORE, LOAD, ("load", "y", A0), BACK), sub=(block(STORE, BACK),))

    def test_turnings(self):
        for turning in (leave(self.code, M[0]), carry(self.code, M[2]), reread(self.code, M[3])):
            self.same(self.edited(Shop(self.code), turned(self.code, turning), "turn", "turn", turning), ("main",))

    def test_by_what_is_shown(self):
        code = code_of(block(STORE, BACK))
        turning = leave(code, M[0], ())
        self.edited(Shop(code, ()), code_of(block(BACK)), "turn", "turn", turning)
        for shown in (None, (CELL,)):
            shop = Shop(code, shown)
            with self.assertRaises(NoPaper) as caught:
                shop.turn(turning)
            self.same((caught.exception.word, caught.exception.at), ("end", M[1]))
            self.same((shop.code_now(), shop.edits()), (code, ()))

    def test_refused(self):
        shop = Shop(self.code)
        turning = leave(self.code, M[0])
        for thing, word, at in ((None, "shape", -1), (list(turning), "shape", -1), (turning[:2], "shape", -1), (("left", M[2], turning[2]), "place", -1),
                                (("left", M[1], turning[2]), "read", M[2]), (("left", M[0], ()), "shape", -1), (("left", M[0], (None,)), "table", 0)):
            self.no_paper(word, at, shop.turn, thing)
            self.same((shop.code_now(), shop.edits(), shop.reckoned()), (self.code, (), ()))

    def test_in_other_routines(self):
        code = code_of(block(call(), BACK), sub=(block(("store", A1, 1), STORE, STORE, BACK),))
        shop = Shop(code)
        # The PLACE of the other "store" moves by it, so the SUMMARY of sub is otherwise.
        self.same(shop.turn(leave(code, S[1])), ("main", "sub"))
        self.tells(shop)

    def test_by_name(self):
        self.same(Shop(self.code).turn(turning=leave(self.code, M[0])), ("main",))


class TestRings(ShopCase):
    def test_a_ring_of_several(self):
        shop = Shop(RING)
        self.same(shop.put_row(("sub", 2, 0), TELL), ("sub", "zub"))
        self.same(shop.put_row(("zub", 0, 0), TELL), ("sub", "zub"))
        self.same(shop.put_row(("yub", 0, 0), TELL), ("yub",))
        self.same(shop.put_row(("yub", 0, 0), STORE), ("aub", "main", "sub", "yub", "zub"))
        self.same(shop.put_row(("sub", 2, 0), STORE), ("aub", "main", "sub", "zub"))
        self.tells(shop)

    def test_a_ring_that_breaks(self):
        shop = Shop(RING)
        # zub calls sub no more: sub stands alone, and is reckoned only if zub's SUMMARIES are otherwise.
        self.same(shop.take_row(("zub", 0, 1)), ("zub",))
        self.same(shop.take_row(("zub", 0, 0)), ("zub",))
        self.same(shop.put_row(("zub", 0, 0), STORE), ("aub", "main", "sub", "zub"))
        self.tells(shop)
        self.same(shop.put_row(("zub", 0, 1), call()), ("sub", "zub"))
        self.tells(shop)

    def test_calls_in_blocks_that_no_way_comes_to(self):
        code = code_of(block(call(), BACK), sub=(block(BACK), block(call("zub"), BACK)), zub=(block(BACK), block(call("sub"), BACK)))
        shop = Shop(code)
        self.same(shop.put_row(("zub", 0, 0), TELL), ("sub", "zub"))
        self.same(shop.put_row(("zub", 0, 0), STORE), ("sub", "zub"))
        self.tells(shop)

    def test_one_that_comes_to_a_ring_is_none_of_it(self):
        shop = Shop(RING)
        self.same(shop.put_row(("aub", 0, 0), TELL), ("aub",))
        self.same(shop.put_row(M[0], STORE), ("main",))


class TestBack(ShopCase):
    def make(self):
        """A shop with five EDITS, the CODES behind each, and what was RECKONED AGAIN."""
        shop = Shop(CHAIN)
        codes, told = [CHAIN], [()]
        for deed, things in (("put_row", (Z[0], TELL)), ("take_row", (M[1],)), ("change_row", (S[0], LOAD)), ("take_code", (RING,)), ("put_row", (M[0], LOAD))):
            told.append(getattr(shop, deed)(*things))
            codes.append(shop.code_now())
        return (shop, codes, told)

    def test_by_so_many(self):
        words = ("put", "take", "change", "code", "put")
        for many in range(1, 6):
            shop, codes, told = self.make()
            self.same(shop.edits(), words)
            self.same(shop.back(many), words[::-1][:many])
            self.same((shop.code_now(), shop.edits(), shop.reckoned(), len(shop)), (codes[5 - many], words[:5 - many], told[5 - many], 5 - many))
            self.tells(shop)
            # It goes on from there as if the others had never been.
            self.edited(shop, LEAST, "code", "take_code", LEAST)

    def test_one_by_one(self):
        shop, codes, told = self.make()
        for k in range(4, -1, -1):
            self.same(len(shop.back()), 1)
            self.same((shop.code_now(), shop.reckoned()), (codes[k], told[k]))
            self.tells(shop)
        self.not_done(shop, NoBack, {"times": 1}, "back", 1)
        self.refused(NoBack, {"times": 1}, shop.back)

    def test_what_is_done_behind_it_is_reckoned_by_the_code_that_stands(self):
        shop = Shop(CHAIN)
        shop.put_row(Z[0], STORE)
        shop.back()
        self.same(shop.put_row(Z[1], TELL), ("zub",))
        shop.back()
        self.same(shop.put_row(Z[0], STORE), ("main", "sub", "zub"))

    def test_refused(self):
        shop, codes, told = self.make()
        for times in (*NO_NUMBERS, 0, -1, 6, 7, 10 ** 60, [0], -5):
            self.not_done(shop, NoBack, {"times": times}, "back", times)
        for times in (0, 1, True, None, 10 ** 30):
            self.not_done(Shop(CHAIN), NoBack, {"times": times}, "back", times)

    def test_then(self):
        shop, codes, told = self.make()
        for k in range(6):
            self.same(shop.then(k), codes[k])
        for k in (*NO_NUMBERS, -1, 6, 10 ** 60):
            self.not_done(shop, NoBack, {"times": k}, "then", k)
        shop.back(2)
        self.same(shop.then(3), codes[3])
        self.not_done(shop, NoBack, {"times": 4}, "then", 4)
        self.same(Shop(LEAST).then(0), LEAST)

    def test_by_name(self):
        shop, codes, told = self.make()
        self.same(shop.then(k=2), codes[2])
        self.same(shop.back(times=2), ("put", "code"))


class TestTold(ShopCase):
    def test_refused_likewise(self):
        shop = Shop(CHAIN)
        for name in (*STRANGE, "none", "Main", 0, ["main"], ("main",)):
            self.refused(NoRoutine, {"name": name}, shop.summary_of, name, CELL)
        for place in (*ODD_PLACES, M[0], M[2], S[0]):
            self.refused(NoPlace, {"place": place}, shop.sources_of, place)
            self.refused(NoPlace, {"place": place}, shop.sources_of, place, CELL)
        self.same(len(shop), 0)

    def test_by_name(self):
        shop = Shop(CHAIN)
        self.same(shop.summary_of(cell=CELL, name="sub"), (((("zub", 0, 0)),), False))
        self.same(shop.sources_of(cell=None, place=M[1]), (("zub", 0, 0),))
        self.same(shop.sources_of(place=M[1]), (("zub", 0, 0),))
        self.same(shop.sources_of(M[1], ("b", 0)), ())

    def test_asking_is_no_edit(self):
        shop = Shop(CHAIN)
        shop.put_row(Z[0], TELL)
        self.tells(shop)
        self.same((shop.edits(), shop.reckoned()), (("put",), ("main", "sub", "zub")))
        self.same(shop == Shop(CHAIN), False)
        self.same((shop.edits(), len(shop)), (("put",), 1))

    def test_len_and_str(self):
        shop = Shop(CHAIN)
        for many in range(4):
            self.same(len(shop), many)
            self.same(str(shop), shown_code(shop.code_now()))
            shop.put_row(M[0], TELL)
        self.same(str(Shop(LEAST)), "object a 1\nroutine main\nback")

    def test_what_is_told_stays_as_it_was(self):
        shop = Shop(CHAIN)
        told = shop.put_row(Z[0], STORE)
        kept = (shop.code_now(), shop.edits(), shop.reckoned(), shop.dead_now(), told)
        text = repr(kept)
        shop.take_code(LEAST)
        shop.back(2)
        self.assertEqual(repr(kept), text)

    def test_blocks_of_forty_rows(self):
        rows = [STORE, TELL, ("load", "y", ANY_A), ("set", "x", "+", "x", 1), ("store", ANY_A, "x")] * 8
        code = code_of(block(*rows, call(), ("if", "x", 0, 1)), block(*rows, BACK), sub=(block(*rows, BACK),))
        shop = Shop(code)
        self.tells(shop)
        self.same(shop.put_row(("main", 0, 40), call()), ("main",))
        self.same(shop.take_row(("sub", 0, 0)), ("main", "sub"))
        self.same(shop.dead_now(), dead(shop.code_now()))
        shop = Shop(LEAST)
        for number in range(40):
            shop.put_row(("main", 0, number), STORE)
        self.same(len(dict(shop.code_now()[1])["main"][0][0]), 40)
        self.same(shop.dead_now(), tuple([("main", 0, row) for row in range(39)]))
        self.same(shop.back(40), ("put",) * 40)
        self.same(shop.code_now(), LEAST)


class TestAlike(Case):
    def test_shops(self):
        self.same(Shop(CHAIN) == Shop(CHAIN), True)
        self.same(Shop(CHAIN) != Shop(CHAIN), False)
        self.same(Shop(CHAIN) == Shop(RING), False)
        self.same(Shop(CHAIN, ()) == Shop(CHAIN), False)
        self.same(Shop(CHAIN, (CELL,)) == Shop(CHAIN, (CELL,)), True)
        self.same(Shop(CHAIN, (CELL,)) == Shop(CHAIN, (("a", 1),)), False)
        self.same(Shop(CHAIN, cells_in(CHAIN)) == Shop(CHAIN), True)
        self.same(Shop(CHAIN) == Shop(CHAIN, cells_in(CHAIN)), True)
        self.same(Shop(CHAIN, cells_in(CHAIN)[1:]) == Shop(CHAIN), False)

    def test_edits_do_not_count(self):
        one, other = Shop(CHAIN), Shop(RING)
        one.take_code(RING)
        self.same(one == other, True)
        one.put_row(M[0], TELL)
        self.same(one == other, False)
        one.take_row(M[0])
        self.same(one == other, True)

    def test_as_it_is_at_the_asking(self):
        one, other = Shop(CHAIN, cells_in(CHAIN)), Shop(CHAIN)
        more = ((*OBJECTS, ("d", 1)), CHAIN[1])
        for shop in (one, other):
            shop.take_code(more)
        self.same(one == other, False)
        for shop in (one, other):
            shop.back()
        self.same(one == other, True)

    def test_other_things(self):
        for thing in (*STRANGE, CHAIN, str(Shop(CHAIN)), 0, OBJECTS):
            self.same(Shop(CHAIN) == thing, False)
            self.same(thing == Shop(CHAIN), False)
            self.same(Shop(CHAIN) != thing, True)

    def test_shops_know_nothing_of_one_another(self):
        one, other = Shop(CHAIN), Shop(CHAIN)
        one.put_row(Z[0], STORE)
        self.same((other.code_now(), other.edits(), other.reckoned(), len(other)), (CHAIN, (), (), 0))
        other.take_row(M[1])
        self.same((one.edits(), one.reckoned()), (("put",), ("main", "sub", "zub")))
        one.back()
        self.same((one.code_now(), other.edits()), (CHAIN, ("take",)))


class TestReckoning(ShopCase):
    """What is told is what is done: no routine is reckoned anew but those that are told."""

    def reckoning(self, deed, *things):
        """What the deed tells, and the routines that were reckoned anew by it."""
        anew = set()

        def watched(code, cell, names, known):
            anew.update(names)
            return standing_of(code, cell, names, known)

        with unittest.mock.patch("storeways.shop.standing_of", watched):
            told = deed(*things)
        return (told, tuple(sorted(anew)))

    def test_only_what_is_told(self):
        shop = Shop(RING)
        for deed, *things in ((shop.put_row, M[0], TELL), (shop.put_row, ("sub", 2, 0), TELL), (shop.put_row, ("yub", 0, 0), STORE), (shop.change_row, M[0], TELL),
                              (shop.take_row, M[0]), (shop.take_code, CHAIN), (shop.take_code, LEAST), (shop.take_code, LEAST)):
            told, anew = self.reckoning(deed, *things)
            self.same(anew, told)
            self.tells(shop)

    def test_nothing_by_back_and_by_asking(self):
        shop = Shop(RING)
        shop.put_row(("yub", 0, 0), STORE)
        shop.take_code(CHAIN)
        for deed in (shop.dead_now, lambda: shop.sources_of(M[1]), lambda: shop.summary_of("main", CELL), shop.back, shop.back):
            self.same(self.reckoning(deed)[1], ())
        self.tells(shop)


class TestMany(ShopCase):
    def some_edit(self, shop, chance, codes):
        """One EDIT by chance."""
        code = shop.code_now()
        places = places_in(code)
        rows = [row_at(other, place) for other in (code, *codes) for place in places_in(other)]
        place = chance.choice(places)
        deed = chance.choice(("put_row", "put_row", "take_row", "change_row", "change_row", "take_code"))
        if deed == "take_row":
            return (deed, place)
        if deed == "take_code":
            return (deed, chance.choice((code, *codes)))
        if deed == "change_row" and row_at(code, place)[0] in END_FORMS:
            many = len(dict(code[1])[place[0]])
            return (deed, place, busy_end(chance, chance.randrange(many), many))
        return (deed, place, chance.choice([row for row in rows if row[0] not in END_FORMS] or [TELL]))

    def test_made_edits(self):
        words = {"put_row": "put", "take_row": "take", "change_row": "change", "take_code": "code"}
        fewer = 0
        for seed in range(40):
            chance = random.Random(seed)
            code = (busy_code, busy_code, sure_code, some_code)[seed % 4](seed)
            codes = [other for other in (busy_code(seed + 1), busy_code(seed + 2)) if other[0] == code[0]]
            shop = Shop(code)
            states = [(code, ())]
            for _ in range(12):
                older = shop.code_now()
                deed, *things = self.some_edit(shop, chance, codes)
                try:
                    told = getattr(shop, deed)(*things)
                except (NoCode, NoPlace):
                    self.same(shop.code_now(), older)
                    continue
                states.append((shop.code_now(), told))
                self.same(shop.edits()[-1], words[deed])
                self.same(told, again_by_words(older, shop.code_now()))
                fewer += 0 < len(told) < len(routines_of(shop.code_now()))
                self.tells(shop)
            self.assertGreater(len(states), 3)
            for k, (past, told) in enumerate(states):
                self.same(shop.then(k), past)
            while len(shop):
                many = chance.randrange(1, len(shop) + 1)
                self.same(len(shop.back(many)), many)
                self.same((shop.code_now(), shop.reckoned()), states[len(shop)])
                self.tells(shop)
        self.assertGreater(fewer, 60)


if __name__ == "__main__":
    unittest.main()
