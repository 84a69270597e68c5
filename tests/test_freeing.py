"""[30], [34], [35], [36]: how FREE WAYS go on, MET PLACES, and shortest ways to them."""

import unittest

from storeways.codes import is_place, places_in, row_at
from storeways.errors import NoPlace
from storeways.faces import cells_in
from storeways.freeing import goes_on, met_places, way_to
from storeways.running import trail
from storeways.operands import worth
from storeways.waychecker import lets_way, shows, state_of
from tests.samples import BACK, CODE, LEAST, M, STRANGE, Case, block, code_of, some_code, some_start

A0, A1, A2, B0, B1, C0 = cells_in(CODE)


def lengths_by_trying(code, deepest=4):
    """How many STEPS lead to each PLACE, at least, by trying all there are with calls not deeper than this.

    Of three routines no shortest way has calls deeper in one another.
    """
    lengths = {}
    states = {(("main", 0, 0), ()): True}
    length = 0
    todo = list(states)
    while todo:
        newer = []
        for place, calls in todo:
            lengths.setdefault(place, length)
            for state in states_behind(code, place, calls):
                if state not in states and state[0] is not None and len(state[1]) <= deepest:
                    states[state] = True
                    newer.append(state)
        todo = newer
        length += 1
    return lengths


def states_behind(code, place, calls):
    """The STATES to which a STEP leads from this one."""
    name, number, at = place
    row = row_at(code, place)
    if row[0] == "call":
        return [((row[1], 0, 0), calls + ((name, number, at + 1),))]
    if row[0] == "back":
        return [(calls[-1], calls[:-1])] if calls else [(None, ())]
    if row[0] == "go":
        return [((name, row[1], 0), calls)]
    if row[0] == "if":
        return [((name, goal, 0), calls) for goal in row[2:]]
    return [((name, number, at + 1), calls)]


class TestGoesOn(Case):
    def told(self, code, way, place, *choices):
        self.same(self.untouched(goes_on, code, way), tuple([(place, choice) for choice in choices]))

    def test_each_one_of_a_face(self):
        for address, cells in (((("a",), 0, 1), (A1,)), ((("a",), 0, "i"), (A0, A1, A2)), ((("b", "a"), "p", 0), (A0, B0)),
                               ((("c", "b"), "p", "i"), (B0, B1, C0)), ((("c", "a", "b"), "x", "x"), (A0, A1, A2, B0, B1, C0)),
                               ((("b", "a"), 0, "i"), (B0, B1)), ((("c",), "p", "i"), (C0,))):
            for row in (("load", "x", address), ("store", address, 1), ("touch", address)):
                self.told(code_of(block(row, BACK)), (), M[0], *cells)

    def test_rows_that_choose_nothing(self):
        for row in (("set", "x", "+", 1, 1), ("tell", 1), ("need", 0), ("need", 1), ("call", "sub")):
            self.told(code_of(block(row, BACK), sub=(block(BACK),)), (), M[0], None)

    def test_ends(self):
        self.told(code_of(block(("go", 1)), block(BACK)), (), M[0], None)
        self.told(LEAST, (), M[0], None)
        self.told(code_of(block(("if", 0, 0, 1)), block(BACK)), (), M[0], 0, 1)
        self.told(code_of(block(("if", 1, 2, 1)), block(BACK), block(BACK)), (), M[0], 1, 2)

    def test_an_if_to_the_same_block_both_ways(self):
        self.told(code_of(block(("if", "x", 1, 1)), block(BACK)), (), M[0], 1)

    def test_many_blocks_are_rising_as_numbers(self):
        code = code_of(block(("if", "x", 10, 9)), *(10 * (block(BACK),)))
        self.told(code, (), M[0], 9, 10)

    def test_within_calls(self):
        code = code_of(block(("call", "sub"), ("tell", 1), BACK), sub=(block(("touch", (("a",), 0, "i")), ("call", "zub"), BACK),),
                       zub=(block(("if", 1, 1, 0)), block(BACK)))
        way = ((M[0], None),)
        self.told(code, way, ("sub", 0, 0), A0, A1, A2)
        way += ((("sub", 0, 0), A1), (("sub", 0, 1), None))
        self.told(code, way, ("zub", 0, 0), 0, 1)
        way += ((("zub", 0, 0), 0), (("zub", 0, 0), 1))
        self.told(code, way, ("zub", 1, 0), None)
        way += ((("zub", 1, 0), None),)
        self.told(code, way, ("sub", 0, 2), None)
        way += ((("sub", 0, 2), None),)
        self.told(code, way, M[1], None)
        way += ((M[1], None),)
        self.told(code, way, M[2], None)

    def test_a_call_that_never_comes_back(self):
        code = code_of(block(("call", "sub"), BACK), sub=(block(("go", 0)),))
        self.told(code, (), M[0], None)
        self.told(code, ((M[0], None), (("sub", 0, 0), None)), ("sub", 0, 0), None)

    def test_behind_an_ended_way(self):
        self.same(self.untouched(goes_on, LEAST, ((M[0], None),)), ())
        code = code_of(block(("call", "sub"), BACK), sub=(block(BACK),))
        self.same(goes_on(code, ((M[0], None), (("sub", 0, 0), None), (M[1], None))), ())

    def test_by_name(self):
        self.same(goes_on(thing=(), code=LEAST), ((M[0], None),))
        self.same(goes_on(code=LEAST, thing=()), ((M[0], None),))


class MetCase(Case):
    def met(self, code, *places):
        """These are MET, and of each a shortest way is told; of all other PLACES none."""
        self.same(self.untouched(met_places, code), places)
        for place in places_in(code):
            if place in places:
                self.leads(code, place)
            else:
                self.refused(NoPlace, {"place": place}, way_to, code, place)

    def leads(self, code, place, many=None):
        """A way is told that is let by, leads to this PLACE, and has so many STEPS."""
        way = self.untouched(way_to, code, place)
        self.same(state_of(code, way)[0], place)
        self.same(lets_way(code, way)[0], "open")
        if many is not None:
            self.same(len(way), many)
        return way


class TestMet(MetCase):
    def test_the_least_code(self):
        self.met(LEAST, M[0])
        self.same(way_to(LEAST, M[0]), ())

    def test_the_first_place(self):
        for code in (CODE, LEAST, code_of(block(("go", 0)))):
            self.same(way_to(code, M[0]), ())

    def test_one_block(self):
        code = code_of(block(("need", 0), ("touch", (("a",), 0, "i")), BACK))
        self.met(code, M[0], M[1], M[2])
        self.leads(code, M[2], 2)

    def test_blocks_to_which_nothing_goes(self):
        code = code_of(block(("go", 2)), block(("tell", 1), ("go", 2)), block(("tell", 2), BACK))
        self.met(code, M[0], ("main", 2, 0), ("main", 2, 1))

    def test_both_ways_of_an_if(self):
        for operand in (0, 1, "x"):
            self.met(code_of(block(("if", operand, 1, 2)), block(BACK), block(BACK)), M[0], ("main", 1, 0), ("main", 2, 0))

    def test_a_routine_that_nobody_calls(self):
        self.met(code_of(block(("tell", 1), BACK), sub=(block(("call", "zub"), BACK),), zub=(block(BACK),)), M[0], M[1])

    def test_a_routine_called_from_a_block_that_is_not_reached(self):
        self.met(code_of(block(BACK), block(("call", "sub"), BACK), sub=(block(BACK),)), M[0])

    def test_a_routine_that_never_comes_back(self):
        for sub in ((block(("go", 0)),), (block(("go", 1)), block(("go", 0))), (block(("call", "sub"), BACK),),
                    (block(("go", 0)), block(BACK))):
            code = code_of(block(("tell", 1), ("call", "sub"), ("tell", 2), BACK), sub=sub)
            met = met_places(code)
            self.same([place for place in met if place[0] == "main"], [M[0], M[1]])
            self.assertIn(("sub", 0, 0), met)
            self.met(code, *met)
            for place in (M[2], M[3]):
                self.refused(NoPlace, {"place": place}, way_to, code, place)

    def test_behind_such_a_call_by_another_way(self):
        code = code_of(block(("if", 0, 1, 2)), block(("call", "sub"), ("go", 2)), block(("tell", 1), BACK), sub=(block(("go", 0)),))
        self.met(code, M[0], ("main", 1, 0), ("main", 2, 0), ("main", 2, 1), ("sub", 0, 0))

    def test_one_that_comes_back_only_behind_a_call_that_never_does(self):
        code = code_of(block(("call", "sub"), BACK), sub=(block(("call", "zub"), BACK),), zub=(block(("go", 0)),))
        self.met(code, M[0], ("sub", 0, 0), ("zub", 0, 0))

    def test_routines_that_call_one_another(self):
        code = code_of(block(("call", "sub"), BACK), sub=(block(("if", 0, 1, 2)), block(("call", "zub"), BACK), block(BACK)),
                       zub=(block(("call", "sub"), BACK),))
        self.met(code, *places_in(code))
        self.leads(code, ("zub", 0, 1), 6)
        self.leads(code, ("sub", 1, 1), 7)
        self.leads(code, M[1], 3)

    def test_routines_that_call_one_another_and_never_come_back(self):
        code = code_of(block(("call", "sub"), BACK), sub=(block(("call", "zub"), BACK),), zub=(block(("call", "sub"), BACK),))
        self.met(code, M[0], ("sub", 0, 0), ("zub", 0, 0))

    def test_a_routine_that_calls_itself(self):
        code = code_of(block(("call", "sub"), BACK), sub=(block(("if", 0, 1, 2)), block(("call", "sub"), BACK), block(BACK)))
        self.met(code, *places_in(code))
        self.leads(code, ("sub", 1, 1), 5)

    def test_places_are_rising(self):
        code = code_of(block(("call", "aub"), ("call", "sub"), BACK), sub=(block(BACK),), aub=(block(BACK),))
        self.same(met_places(code), (("aub", 0, 0), M[0], M[1], M[2], ("sub", 0, 0)))

    def test_by_name(self):
        self.same(met_places(code=LEAST), (M[0],))
        self.same(way_to(code=LEAST, place=M[0]), ())
        self.refused(NoPlace, {"place": None}, way_to, place=None, code=LEAST)


class TestShortest(MetCase):
    def test_the_shorter_of_two_ways(self):
        long = block(*(4 * [("tell", 1)]), ("go", 3))
        code = code_of(block(("if", 0, 1, 2)), long, block(("tell", 2), ("go", 3)), block(BACK))
        self.leads(code, ("main", 3, 0), 3)
        code = code_of(block(("if", 0, 2, 1)), long, block(("tell", 2), ("go", 3)), block(BACK))
        self.leads(code, ("main", 3, 0), 3)

    def test_round_a_call_that_is_long(self):
        sub = (block(*(6 * [("tell", 1)]), BACK),)
        code = code_of(block(("if", 0, 1, 2)), block(("call", "sub"), ("go", 3)), block(*(4 * [("tell", 2)]), ("go", 3)), block(BACK), sub=sub)
        self.leads(code, ("main", 3, 0), 6)
        code = code_of(block(("if", 0, 1, 2)), block(("call", "sub"), ("go", 3)), block(*(12 * [("tell", 2)]), ("go", 3)), block(BACK), sub=sub)
        self.leads(code, ("main", 3, 0), 10)

    def test_the_shorter_way_through_a_routine(self):
        sub = (block(("if", 0, 1, 2)), block(*(4 * [("tell", 1)]), BACK), block(BACK))
        code = code_of(block(("call", "sub"), ("call", "sub"), ("tell", 1), BACK), sub=sub)
        self.leads(code, M[2], 6)

    def test_each_step_counts_one(self):
        # Two ways to the last block, one of ROWS, ENDS and calls that come back, so many of each, against the other.
        sorts = [(rows, ends, calls) for rows in range(4) for ends in range(3) for calls in range(3)]
        for one in sorts:
            for other in sorts:
                blocks, last = [block(("if", 0, 1, 2 + one[1]))], 3 + one[1] + other[1]
                for (rows, ends, calls), first in ((one, 1), (other, 2 + one[1])):
                    blocks.append(block(*(rows * [("tell", 1)] + calls * [("call", "sub")]), ("go", first + 1 if ends else last)))
                    blocks.extend([block(("go", first + k + 2 if k + 1 < ends else last)) for k in range(ends)])
                code = code_of(*blocks, block(BACK), sub=(block(BACK),))
                lengths = [1 + rows + 2 * calls + 1 + ends for rows, ends, calls in (one, other)]
                self.same(len(way_to(code, ("main", last, 0))), min(lengths))

    def test_open_calls_against_rows(self):
        for rows in range(5):
            ways = (block(*(rows * [("tell", 1)]), ("call", "zub"), BACK), block(("call", "aub"), BACK))
            for one, other in (ways, ways[::-1]):
                code = code_of(block(("if", 0, 1, 2)), one, other, aub=(block(("call", "bub"), BACK),), bub=(block(("call", "zub"), BACK),),
                               zub=(block(BACK),))
                self.leads(code, ("zub", 0, 0), 1 + min(rows + 1, 3))

    def test_a_call_that_is_left_open_counts_one(self):
        code = code_of(block(*(5 * [("tell", 1)]), ("if", 0, 1, 2)), block(("call", "sub"), BACK), block(("tell", 1), ("call", "sub"), BACK),
                       sub=(block(("tell", 1), BACK),))
        self.same(self.leads(code, ("sub", 0, 0), 7)[-1], (("main", 1, 0), None))

    def test_a_routine_that_is_long_the_first_way_one_comes_to_know(self):
        # Without calls zub takes long; by a call of sub it is short. So what is known first is not the shortest.
        zub = (block(("if", 0, 1, 2)), block(*(9 * [("tell", 1)]), BACK), block(("call", "sub"), BACK))
        code = code_of(block(("call", "zub"), BACK), sub=(block(BACK),), zub=zub)
        self.leads(code, M[1], 5)

    def test_calls_in_one_another_by_turns(self):
        one = block(("if", 0, 1, 2))
        sub = (one, block(("call", "zub"), BACK), block(*(30 * [("tell", 1)]), BACK))
        zub = (one, block(("call", "sub"), BACK), block(*(3 * [("tell", 1)]), BACK))
        code = code_of(block(("call", "sub"), ("call", "zub"), BACK), sub=sub, zub=zub)
        self.leads(code, M[1], 1 + 1 + 1 + 5 + 1)
        self.leads(code, M[2], 9 + 1 + 5)

    def test_all_by_trying(self):
        unmet = 0
        for seed in range(150):
            code = some_code(seed, most_rows=2)
            lengths = lengths_by_trying(code)
            self.same(met_places(code), tuple(sorted(lengths)))
            for place in lengths:
                self.leads(code, place, lengths[place])
            for place in places_in(code):
                if place not in lengths:
                    unmet += 1
                    self.refused(NoPlace, {"place": place}, way_to, code, place)
        self.assertGreater(unmet, 100)

    def test_many_calls_in_one_another(self):
        names = ["q" + chr(97 + k) for k in range(12)]
        rows = {name: (block(("call", other), ("call", other), BACK),) for name, other in zip(names, names[1:])}
        code = code_of(block(("call", names[0]), BACK), **rows, **{names[-1]: (block(("tell", 1), BACK),)})
        self.same(met_places(code), places_in(code))
        through = 2
        for _ in names[1:]:
            through = 2 * (1 + through) + 1
        self.leads(code, M[1], 1 + through)
        self.leads(code, (names[-1], 0, 1), 13)

    def test_a_long_row_of_calls(self):
        names = ["q" + chr(97 + k // 26) + chr(97 + k % 26) for k in range(90)]
        rows = {name: (block(("call", other), BACK),) for name, other in zip(names, names[1:])}
        code = code_of(block(("call", names[0]), BACK), **rows, **{names[-1]: (block(BACK),)})
        self.leads(code, M[1], 180)

    def test_ways_far_too_long_to_be_told_turn_nothing_else(self):
        names = ["q" + chr(97 + k // 26) + chr(97 + k % 26) for k in range(70)]
        rows = {name: (block(("call", other), ("call", other), BACK),) for name, other in zip(names, names[1:])}
        code = code_of(block(("call", names[0]), BACK), **rows, **{names[-1]: (block(BACK),)})
        self.same(met_places(code), places_in(code))
        self.leads(code, (names[-1], 0, 0), 70)


class TestNoPlace(Case):
    def test_any_thing(self):
        for thing in (*STRANGE, 0, 1, "main", "main:0:0", ("main",), ("main", 0), ("main", 0, 0, 0), ["main", 0, 0], ("main", False, 0),
                      ("main", 0, False), ("main", True, 0), ("main", 0, True), ("main", 0, "0"), ("main", 0, 9), ("main", 9, 0), ("main", -1, 0),
                      ("main", 0, -1), ("none", 0, 0), ("main", 10 ** 199, 0), (("main", 0, 0),), (["main"], 0, 0), ("main", [0], 0)):
            self.refused(NoPlace, {"place": thing}, way_to, CODE, thing)

    def test_an_ended_way_leads_nowhere(self):
        self.refused(NoPlace, {"place": None}, way_to, LEAST, state_of(LEAST, ((M[0], None),))[0])


class TestWhatFollows(Case):
    def test_each_way_is_come_to_step_by_step(self):
        for seed in range(25):
            code = some_code(seed, most_rows=2)
            ways = [()]
            for _ in range(6):
                ways = [way + (step,) for way in ways[:40] for step in goes_on(code, way)]
                for way in ways:
                    word, last = lets_way(code, way)
                    self.same(word == "ends", goes_on(code, way) == ())
                    for many in range(len(way)):
                        self.assertIn(way[many], goes_on(code, way[:many]))
                        self.same(lets_way(code, way[:many])[0], "open")

    def test_all_steps_are_at_the_place_of_the_state(self):
        for seed in range(40):
            code = some_code(seed)
            way = trail(code, some_start(seed), 10)
            for many in range(len(way) + 1):
                steps = goes_on(code, way[:many])
                self.same({place for place, choice in steps} == {state_of(code, way[:many])[0]}, bool(steps))
                choices = [choice for place, choice in steps]
                self.same(choices, sorted(set(choices)) if len(choices) > 1 else choices)
                if many < len(way):
                    self.assertIn(way[many], steps)

    def test_no_place_is_come_to_by_a_run_that_is_not_met(self):
        for seed in range(150):
            code = some_code(seed)
            met = met_places(code)
            self.assertTrue(all(is_place(code, place) for place in met))
            self.same(met, tuple(sorted(set(met))))
            for place, choice in trail(code, some_start(seed), 30):
                self.assertIn(place, met)

    def test_places_of_states_are_handed_in_again(self):
        for seed in range(40):
            code = some_code(seed)
            way = trail(code, some_start(seed), 8)
            for many in range(len(way)):
                place, calls = state_of(code, way[:many])
                shortest = way_to(code, place)
                self.same(state_of(code, shortest)[0], place)
                self.assertLessEqual(len(shortest), many)
                for other in calls:
                    if other in met_places(code):
                        self.same(state_of(code, way_to(code, other))[0], other)

    def test_what_a_load_had_is_what_the_store_gave_that_it_shows(self):
        shown = {True: 0, False: 0}
        for seed in range(300):
            code, start = some_code(seed), some_start(seed)
            names, given, has = dict(start[0]), {}, dict(start[1])
            way = trail(code, start, 20)
            for many, (place, choice) in enumerate(way, start=1):
                row = row_at(code, place)
                if row[0] == "store":
                    has[choice] = given[place, choice] = worth(row[2], tuple(sorted(names.items())))
                elif row[0] == "load":
                    read, source = shows(code, way[:many])
                    self.same(read, place)
                    self.same(has.get(choice, 0), dict(start[1]).get(choice, 0) if source is None else given[source, choice])
                    shown[source is None] += 1
                    names[row[1]] = has.get(choice, 0)
                elif row[0] == "set":
                    one, other = [worth(operand, tuple(sorted(names.items()))) for operand in row[3:]]
                    names[row[1]] = {"+": one + other, "-": one - other, "*": one * other, "<": int(one < other)}[row[2]]
        self.assertGreater(min(shown.values()), 20)


if __name__ == "__main__":
    unittest.main()
