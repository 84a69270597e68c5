"""[31], [32], [33], [36]: FREE WAYS looked at, by [5]; what is no FREE WAY is refused by each look at it."""

import unittest

from storeways.codes import is_place
from storeways.errors import NoPaper
from storeways.faces import cells_in
from storeways.freeing import goes_on
from storeways.running import trail
from storeways.waychecker import lets_way, shows, state_of
from tests.samples import BACK, CODE, LEAST, M, STRANGE, Case, block, code_of, exchanged, some_code, some_start

A0, A1, A2, B0, B1, C0 = cells_in(CODE)
LOOKS = (lets_way, state_of, shows, goes_on)

# One of each sort of ROW and END.
ALL = code_of(
    block(("load", "x", (("a",), 0, "i")), ("store", (("a", "b"), "p", 1), 5), ("touch", (("b", "c"), "p", 0)),
          ("set", "x", "+", 1, 1), ("tell", 1), ("need", 0), ("call", "sub"), ("if", 1, 1, 2)),
    block(("go", 2)),
    block(("load", "x", (("a", "b"), "p", "i")), BACK),
    sub=(block(("store", (("c",), "i", "i"), 1), BACK),),
)
WAY = ((M[0], A2), (M[1], B1), (M[2], C0), (M[3], None), (M[4], None), (M[5], None), (M[6], None),
       (("sub", 0, 0), C0), (("sub", 0, 1), None), (M[7], 1), (("main", 1, 0), None), (("main", 2, 0), B1), (("main", 2, 1), None))


class WayCase(Case):
    def no_paper(self, word, at, code, thing, looks=LOOKS):
        """Each look refuses the thing with this word and this number."""
        for look in looks:
            with self.subTest(look=look.__name__, thing=thing):
                with self.assertRaises(NoPaper) as caught:
                    self.untouched(look, code, thing)
                self.same((caught.exception.word, caught.exception.at), (word, at))


class TestLetsWay(WayCase):
    def test_beginnings(self):
        for many in range(len(WAY)):
            self.same(self.untouched(lets_way, ALL, WAY[:many])[0], "open")
        self.same(self.untouched(lets_way, ALL, WAY)[0], "ends")

    def test_nothing(self):
        for code in (ALL, CODE, LEAST):
            self.same(self.untouched(lets_way, code, ()), ("open", ()))

    def test_the_least_code(self):
        self.same(lets_way(LEAST, ((("main", 0, 0), None),)), ("ends", ()))

    def test_last_stores(self):
        self.same(lets_way(ALL, WAY[:1]), ("open", ()))
        self.same(lets_way(ALL, WAY[:2]), ("open", ((B1, M[1]),)))
        self.same(lets_way(ALL, WAY[:7]), ("open", ((B1, M[1]),)))
        self.same(lets_way(ALL, WAY[:8]), ("open", ((B1, M[1]), (C0, ("sub", 0, 0)))))
        self.same(lets_way(ALL, WAY), ("ends", ((B1, M[1]), (C0, ("sub", 0, 0)))))

    def test_the_last_store_to_each_cell(self):
        code = code_of(block(("store", (("c", "a"), "p", 0), 1), ("store", (("c", "b", "a"), "p", "i"), 1), ("if", 0, 0, 1)), block(BACK))
        one, other, end = ("main", 0, 0), ("main", 0, 1), ("main", 0, 2)
        self.same(lets_way(code, ((one, C0), (other, C0))), ("open", ((C0, other),)))
        self.same(lets_way(code, ((one, C0), (other, A1))), ("open", ((A1, other), (C0, one))))
        self.same(lets_way(code, ((one, C0), (other, A1), (end, 0), (one, A0), (other, B1), (end, 0), (one, C0), (other, A0))),
                  ("open", ((A0, other), (A1, other), (B1, other), (C0, one))))
        self.same(lets_way(code, ((one, A0), (other, A0), (end, 0), (one, A0), (other, C0), (end, 1), (("main", 1, 0), None))),
                  ("ends", ((A0, one), (C0, other))))

    def test_what_no_run_does(self):
        # Each "if" goes either way, each "need" passes, each ADDRESS is any CELL of its FACE, each time anew.
        code = code_of(block(("need", 0), ("touch", (("a",), 0, "i")), ("touch", (("a",), 0, "i")), ("if", 1, 0, 1)), block(BACK))
        way = ((M[0], None), (M[1], A0), (M[2], A2), (M[3], 1), (("main", 1, 0), None))
        self.same(lets_way(code, way), ("ends", ()))
        self.same(lets_way(code, way[:3] + ((M[3], 0), (M[0], None), (M[1], A1))), ("open", ()))

    def test_pick_and_index_by_one_name(self):
        code = code_of(block(("touch", (("a", "b"), "x", "x")), BACK))
        for cell in (A0, A1, A2, B0, B1):
            self.same(lets_way(code, ((M[0], cell),)), ("open", ()))
        self.no_paper("choice", 0, code, ((M[0], C0),))

    def test_by_name(self):
        self.same(lets_way(code=LEAST, thing=()), ("open", ()))
        self.same(state_of(thing=(), code=LEAST), (("main", 0, 0), ()))
        self.same(shows(thing=WAY[:1], code=ALL), (M[0], None))


class TestShape(WayCase):
    def test_no_tuple(self):
        self.no_paper("shape", -1, ALL, None)
        for thing in (True, False, 0, -1, "", "main:0:0", [], list(WAY), [()], ["a"], [1, 2]):
            self.no_paper("shape", -1, ALL, thing)

    def test_a_step_that_is_no_pair(self):
        for thing in (*[thing for thing in STRANGE if thing != ()], 0, 1, "ab", M[0], (M[0],), (M[0], A2, None), [M[0], A2], ((M[0], A2),)):
            self.no_paper("shape", -1, ALL, (thing,))
            self.no_paper("shape", -1, ALL, WAY[:3] + (thing,))
            self.no_paper("shape", -1, ALL, (thing,) + WAY)

    def test_a_place_that_is_none_by_kind(self):
        for place in (*STRANGE, 0, "main", ("main",), ("main", 0), ("main", 0, 0, 0), ["main", 0, 0], ("main", 0, False), ("main", False, 0),
                      ("main", 0, True), ("main", True, 0), ("main", 0, None), ("main", "0", 0), ("main", 0, "0"), (0, 0, 0),
                      ("", 0, 0), ("Main", 0, 0), ("abcdefghi", 0, 0), (True, 0, 0), (None, 0, 0), (("main",), 0, 0), ("ma in", 0, 0)):
            self.no_paper("shape", -1, ALL, ((place, A2),))
            self.no_paper("shape", -1, ALL, WAY[:4] + ((place, None),))

    def test_ahead_of_all_else(self):
        self.no_paper("shape", -1, ALL, ((("main", 5, 5), None), (M[0], 77), (("main", 0, True), None)))
        self.no_paper("shape", -1, ALL, ((M[0], None), None))
        self.no_paper("shape", -1, ALL, WAY + (None,))

    def test_a_truth_in_a_place_that_is_due(self):
        code = code_of(block(("go", 1)), block(("tell", 1), BACK))
        way = ((("main", 0, 0), None), (("main", 1, 0), None), (("main", 1, 1), None))
        self.same(lets_way(code, way), ("ends", ()))
        for at, place in ((1, ("main", True, 0)), (1, ("main", 1, False)), (2, ("main", 1, True)), (0, ("main", False, 0))):
            self.no_paper("shape", -1, code, exchanged(way, at, (place, None)))


class TestPlaces(WayCase):
    def test_another_place(self):
        for k, (place, choice) in enumerate(WAY):
            for other in (("main", 0, 9), ("main", -1, 0), ("none", 0, 0), ("main", 10 ** 199, 0), ("sub", 0, -1), ("sub", 1, 0)):
                self.no_paper("place", k, ALL, WAY[:k] + ((other, choice),))
                self.no_paper("place", k, ALL, exchanged(WAY, k, (other, choice)))
            for other, told in WAY:
                if other != place:
                    self.no_paper("place", k, ALL, WAY[:k] + ((other, told),) + WAY[k + 1:])

    def test_the_first_one(self):
        self.no_paper("place", 0, ALL, WAY[1:])
        self.no_paper("place", 0, ALL, ((("sub", 0, 0), C0),))
        self.no_paper("place", 0, ALL, ((("main", 0, 1), B1),))

    def test_a_step_left_out(self):
        for k in range(len(WAY) - 1):
            self.no_paper("place", k, ALL, WAY[:k] + WAY[k + 1:])

    def test_a_step_twice(self):
        for k in range(len(WAY)):
            self.no_paper("place", k + 1, ALL, WAY[:k + 1] + WAY[k:])

    def test_behind_the_end(self):
        for place in (("main", 0, 0), ("main", 2, 1), ("main", 2, 2), ("sub", 0, 0), ("none", 5, 5)):
            self.no_paper("place", len(WAY), ALL, WAY + ((place, None),))
        self.no_paper("place", 1, LEAST, ((("main", 0, 0), None), (("main", 0, 0), None)))

    def test_where_a_call_comes_back(self):
        code = code_of(block(("call", "sub"), ("call", "sub"), BACK), sub=(block(BACK),))
        sub = (("sub", 0, 0), None)
        self.same(lets_way(code, ((M[0], None), sub, (M[1], None), sub, (M[2], None))), ("ends", ()))
        self.no_paper("place", 2, code, ((M[0], None), sub, (M[2], None)))
        self.no_paper("place", 2, code, ((M[0], None), sub, (M[0], None)))
        self.no_paper("place", 4, code, ((M[0], None), sub, (M[1], None), sub, (M[1], None)))
        self.no_paper("place", 1, code, ((M[0], None), (M[1], None)))

    def test_where_an_if_goes(self):
        code = code_of(block(("if", 1, 1, 2)), block(BACK), block(BACK))
        self.no_paper("place", 1, code, ((M[0], 1), (("main", 2, 0), None)))
        self.no_paper("place", 1, code, ((M[0], 2), (("main", 1, 0), None)))
        self.same(lets_way(code, ((M[0], 2), (("main", 2, 0), None))), ("ends", ()))

    def test_ahead_of_the_choice(self):
        self.no_paper("place", 0, ALL, ((("main", 0, 1), "none"),))
        self.no_paper("choice", 0, ALL, ((M[0], "none"), (M[5], "none")))


class TestChoices(WayCase):
    def wrong(self, k, *choices):
        """None of these can be chosen by STEP k of the sample."""
        for choice in choices:
            self.no_paper("choice", k, ALL, WAY[:k] + ((WAY[k][0], choice),))
            self.no_paper("choice", k, ALL, exchanged(WAY, k, (WAY[k][0], choice)))

    def test_cells(self):
        no_cells = (*STRANGE, 0, 1, "a", "a:2", ("a",), ("a", 3), ("a", -1), ("a", True), ("a", False), ("a", "i"), ["a", 2], ("a", 2, 0),
                    (("a",), 2), ("d", 0), (0, "a"), (("a",), 0, "i"))
        self.wrong(0, *no_cells, B0, B1, C0, ("b", True))
        self.wrong(1, *no_cells, A0, A2, B0, C0, ("b", True))
        self.wrong(2, *no_cells, A0, B1, ("b", False), ("c", False))
        self.wrong(7, *no_cells, A0, B0, ("c", False))
        self.wrong(11, *no_cells, C0, ("b", False))

    def test_a_truth_for_an_index(self):
        self.wrong(1, ("a", True), ("b", True))
        self.same(lets_way(ALL, WAY[:1] + ((M[1], ("a", 1)),)), ("open", ((A1, M[1]),)))

    def test_blocks(self):
        self.wrong(9, *STRANGE, 0, 3, -1, 10 ** 199, "1", (1,), [1], A0, True)
        code = code_of(block(("if", "x", 0, 1)), block(BACK))
        for choice in (True, False, None, 2, -1, "0"):
            self.no_paper("choice", 0, code, ((M[0], choice),))
        for choice in (0, 1):
            self.same(lets_way(code, ((M[0], choice),)), ("open", ()))

    def test_none_where_nothing_is_chosen(self):
        for k in (3, 4, 5, 6, 8, 10, 12):
            self.wrong(k, *STRANGE[1:], 0, 1, A0, B1, ("main", 0, 0), ("sub", 0, 0), "sub")

    def test_the_block_of_a_go_is_no_choice(self):
        self.wrong(10, 2)
        self.no_paper("choice", 0, code_of(block(("go", 0))), ((M[0], 0),))


class TestStates(WayCase):
    def told(self, code, way, place, *calls):
        self.same(self.untouched(state_of, code, way), (place, calls))

    def test_nothing(self):
        for code in (ALL, CODE, LEAST):
            self.told(code, (), ("main", 0, 0))

    def test_step_by_step(self):
        places = [place for place, choice in WAY] + [None]
        for many, place in enumerate(places):
            self.told(ALL, WAY[:many], place, *((M[7],) if place and place[0] == "sub" else ()))

    def test_ended(self):
        self.told(ALL, WAY, None)
        self.told(LEAST, ((("main", 0, 0), None),), None)

    def test_calls_in_one_another(self):
        code = code_of(block(("tell", 1), ("call", "zub"), ("tell", 1), BACK), sub=(block(("tell", 1), BACK),),
                       zub=(block(("go", 1)), block(("call", "sub"), BACK)))
        way = ((M[0], None), (M[1], None), (("zub", 0, 0), None), (("zub", 1, 0), None), (("sub", 0, 0), None), (("sub", 0, 1), None),
               (("zub", 1, 1), None), (M[2], None), (M[3], None))
        calls = ((), (), (M[2],), (M[2],), (M[2], ("zub", 1, 1)), (M[2], ("zub", 1, 1)), (M[2],), (), (), ())
        for many, due in enumerate(calls):
            self.told(code, way[:many], way[many][0] if many < len(way) else None, *due)

    def test_a_call_as_the_last_row_comes_back_to_the_end(self):
        code = code_of(block(("call", "sub"), ("go", 0)), sub=(block(("call", "sub"), BACK),))
        sub = ("sub", 0, 0)
        self.told(code, ((M[0], None),), sub, M[1])
        self.told(code, ((M[0], None), (sub, None), (sub, None)), sub, M[1], ("sub", 0, 1), ("sub", 0, 1))

    def test_many_open_calls(self):
        code = code_of(block(("call", "sub"), BACK), sub=(block(("if", 1, 1, 2)), block(("call", "sub"), BACK), block(BACK)))
        down = ((("sub", 0, 0), 1), (("sub", 1, 0), None))
        way = ((M[0], None),) + 3000 * down
        self.told(code, way, ("sub", 0, 0), M[1], *(3000 * (("sub", 1, 1),)))
        way += ((("sub", 0, 0), 2), (("sub", 2, 0), None)) + 3000 * ((("sub", 1, 1), None),)
        self.told(code, way, M[1])
        self.same(lets_way(code, way + ((M[1], None),)), ("ends", ()))

    def test_places_of_states_are_places(self):
        for seed in range(40):
            code = some_code(seed)
            way = trail(code, some_start(seed), 12)
            for many in range(len(way) + 1):
                place, calls = state_of(code, way[:many])
                self.assertTrue(place is None or is_place(code, place))
                self.assertTrue(all(is_place(code, other) for other in calls))


class TestShows(WayCase):
    def test_the_start(self):
        self.same(self.untouched(shows, ALL, WAY[:1]), (M[0], None))

    def test_a_store(self):
        self.same(self.untouched(shows, ALL, WAY[:12]), (("main", 2, 0), M[1]))
        self.same(shows(ALL, WAY[:11] + ((("main", 2, 0), B0),)), (("main", 2, 0), None))
        self.same(shows(ALL, WAY[:11] + ((("main", 2, 0), A1),)), (("main", 2, 0), None))
        self.same(shows(ALL, exchanged(WAY, 1, (M[1], A1))[:11] + ((("main", 2, 0), A1),)), (("main", 2, 0), M[1]))

    def test_the_last_store_of_the_cell_that_is_chosen(self):
        code = code_of(block(("store", (("a",), 0, "i"), 1), ("store", (("a",), 0, "i"), 2), ("load", "x", (("a",), 0, "i")), ("go", 0)))
        for one in (A0, A1):
            for other in (A0, A1):
                for read in (A0, A1, A2):
                    want = M[1] if read == other else M[0] if read == one else None
                    self.same(shows(code, ((M[0], one), (M[1], other), (M[2], read))), (M[2], want))
        way = ((M[0], A0), (M[1], A1), (M[2], A2), (M[3], None), (M[0], A1), (M[1], A2), (M[2], A0))
        self.same(shows(code, way), (M[2], M[0]))
        self.same(shows(code, way[:6] + ((M[2], A1),)), (M[2], M[0]))
        self.same(shows(code, way[:6] + ((M[2], A2),)), (M[2], M[1]))

    def test_a_store_in_a_routine(self):
        code = code_of(block(("call", "sub"), ("load", "x", (("a",), 0, 0)), BACK), sub=(block(("store", (("a",), 0, 0), 1), BACK),))
        self.same(shows(code, ((M[0], None), (("sub", 0, 0), A0), (("sub", 0, 1), None), (M[1], A0))), (M[1], ("sub", 0, 0)))

    def test_a_load_is_no_store(self):
        code = code_of(block(("load", "x", (("a",), 0, 0)), ("load", "x", (("a",), 0, 0)), BACK))
        self.same(shows(code, ((M[0], A0), (M[1], A0))), (M[1], None))

    def test_a_last_step_that_is_no_load(self):
        for many in range(len(WAY) + 1):
            if many not in (1, 12):
                self.no_paper("load", -1, ALL, WAY[:many], looks=(shows,))

    def test_nothing(self):
        for code in (ALL, CODE, LEAST):
            self.no_paper("load", -1, code, (), looks=(shows,))

    def test_what_is_no_way_goes_first(self):
        self.no_paper("place", 1, ALL, (WAY[0], (M[0], A0)))
        self.no_paper("choice", 0, ALL, ((M[0], B0),))
        self.no_paper("choice", 3, ALL, WAY[:3] + ((M[3], 0),))


if __name__ == "__main__":
    unittest.main()
