"""[70], [71]: the HOLD TABLE with the fewest met, and of those with the most other truths."""

import unittest

from storeways.codes import places_in, routines_of
from storeways.freeing import met_places
from storeways.holding import hold_table
from tests.samples import (
    A0, ANY_A, BACK, CELL, CODE, LEAF, LEAST, LOAD, STORE, Case, block, busy_code, code_of, some_code,
)
from tests.tried import tried_holds, tried_keeps

# What is told of a PLACE: met, kept, found.
KEPT = (True, True, False)
BOTH = (True, True, True)
NEITHER = (True, False, False)
UNMET = (False, True, True)


def holders(code, name, cell):
    """The PLACES that are met at which the NAME HOLDS the CELL by the HOLD TABLE that is told."""
    points, begun = hold_table(code, name, cell)
    truths = dict(begun)
    return [place for place, met, kept, found in points if met and (kept if truths[place[0]] else found)]


class TestHolding(Case):
    def told(self, code, points, begun, name="x", cell=CELL):
        """The points by PLACES in their order, begins by routines in theirs."""
        table = self.untouched(hold_table, code, name, cell)
        self.same(table, (tuple([(place, *truths) for place, truths in zip(places_in(code), points, strict=True)]),
                          tuple(zip(routines_of(code), begun, strict=True))))

    def test_one_routine_of_rows(self):
        self.told(LEAST, (KEPT,), (False,))
        self.told(code_of(block(LOAD, ("tell", "x"), BACK)), (KEPT, BOTH, BOTH), (False,))

    def test_behind_a_store(self):
        self.told(code_of(block(LOAD, STORE, BACK)), (KEPT, BOTH, NEITHER), (False,))
        self.told(code_of(block(LOAD, ("store", ANY_A, 7), BACK)), (KEPT, BOTH, NEITHER), (False,))
        self.told(code_of(block(LOAD, ("store", (("a", "b"), "p", 0), "x"), BACK)), (KEPT, BOTH, NEITHER), (False,))
        self.told(code_of(block(LOAD, ("store", (("a",), 0, 1), 7), BACK)), (KEPT, BOTH, BOTH), (False,))
        self.told(code_of(block(LOAD, ("store", (("b",), 0, "i"), 7), BACK)), (KEPT, BOTH, BOTH), (False,))

    def test_behind_what_gives_the_name_something(self):
        self.told(code_of(block(LOAD, ("set", "x", "+", "x", 0), BACK)), (KEPT, BOTH, NEITHER), (False,))
        self.told(code_of(block(LOAD, ("load", "x", (("a",), 0, 1)), BACK)), (KEPT, BOTH, NEITHER), (False,))
        self.told(code_of(block(LOAD, ("load", "x", ANY_A), BACK)), (KEPT, BOTH, NEITHER), (False,))
        self.told(code_of(block(LOAD, ("set", "y", "+", "x", 0), ("load", "z", ANY_A), BACK)), (KEPT, BOTH, BOTH, BOTH), (False,))

    def test_a_load_whose_face_is_more_than_the_cell(self):
        for address in (ANY_A, (("a", "b"), "p", 0), (("a", "b"), "p", "i")):
            self.told(code_of(block(("load", "x", address), BACK)), (KEPT, NEITHER), (False,))

    def test_a_load_of_the_cell_by_names(self):
        code = code_of(block(("load", "x", (("c",), "p", "x")), BACK))
        self.told(code, (KEPT, BOTH), (False,), cell=("c", 0))
        self.told(code, (KEPT, NEITHER), (False,))
        self.told(code_of(block(("load", "x", (("b", "a"), 1, 0)), BACK)), (KEPT, BOTH), (False,))

    def test_other_rows_let_it_by(self):
        rows = (("touch", A0), ("tell", "x"), ("need", "x"), ("set", "y", "+", "x", "x"), ("load", "y", A0))
        self.told(code_of(block(LOAD, *rows, BACK)), (KEPT, *[BOTH] * 6), (False,))
        self.told(code_of(block(*rows, BACK)), [KEPT] * 6, (False,))

    def test_on_each_way_and_on_one_alone(self):
        ways = (block(("if", "x", 1, 2)), block(LOAD, ("go", 3)))
        self.told(code_of(*ways, block(LOAD, ("go", 3)), block(BACK)), (KEPT, KEPT, BOTH, KEPT, BOTH, BOTH), (False,))
        self.told(code_of(*ways, block(("go", 3)), block(BACK)), (KEPT, KEPT, BOTH, KEPT, KEPT), (False,))
        self.told(code_of(*ways, block(STORE, ("go", 3)), block(BACK)), (KEPT, KEPT, BOTH, KEPT, NEITHER, NEITHER), (False,))

    def test_loops(self):
        self.told(code_of(block(LOAD, ("go", 1)), block(("if", "x", 1, 2)), block(BACK)), (KEPT, BOTH, BOTH, BOTH), (False,))
        self.told(code_of(block(LOAD, ("go", 1)), block(STORE, ("if", "x", 1, 2)), block(BACK)), (KEPT, BOTH, NEITHER, NEITHER, NEITHER), (False,))
        self.told(code_of(block(LOAD, ("go", 1)), block(STORE, LOAD, ("if", "x", 1, 2)), block(BACK)), (KEPT, BOTH, BOTH, NEITHER, BOTH, BOTH), (False,))

    def test_what_comes_round_to_the_first_place(self):
        self.told(code_of(block(LOAD, ("go", 0))), (KEPT, BOTH), (False,))
        self.told(code_of(block(STORE, ("go", 0))), (NEITHER, NEITHER), (False,))

    def test_a_call_that_keeps_it(self):
        sub = (block(("tell", "x"), BACK),)
        self.told(code_of(block(LOAD, ("call", "sub"), BACK), sub=sub), (KEPT, BOTH, BOTH, KEPT, KEPT), (False, True))

    def test_a_call_that_gives_it(self):
        sub = (block(LOAD, BACK),)
        self.told(code_of(block(("call", "sub"), BACK), sub=sub), (KEPT, BOTH, KEPT, BOTH), (False, False))
        self.told(code_of(block(STORE, ("call", "sub"), BACK), sub=sub), (KEPT, NEITHER, BOTH, KEPT, BOTH), (False, False))

    def test_a_call_that_loses_it(self):
        sub = (block(STORE, BACK),)
        self.told(code_of(block(LOAD, ("call", "sub"), BACK), sub=sub), (KEPT, BOTH, NEITHER, KEPT, NEITHER), (False, True))
        sub = (block(("if", "x", 1, 2)), block(BACK), block(("set", "x", "+", 1, 1), BACK))
        self.told(code_of(block(LOAD, ("call", "sub"), BACK), sub=sub),
                  (KEPT, BOTH, NEITHER, KEPT, KEPT, KEPT, NEITHER), (False, True))

    def test_a_call_that_never_comes_back(self):
        code = code_of(block(("call", "sub"), STORE, BACK), sub=(block(("go", 0)),))
        self.told(code, (KEPT, UNMET, UNMET, KEPT), (False, False))
        code = code_of(block(LOAD, ("call", "sub"), BACK), sub=(block(STORE, ("call", "sub"), BACK),))
        self.told(code, (KEPT, BOTH, UNMET, KEPT, NEITHER, UNMET), (False, False))

    def test_only_backs_that_are_met_count(self):
        sub = (block(("if", "x", 1, 2)), block(BACK), block(("call", "zub"), STORE, BACK), block(STORE, BACK))
        code = code_of(block(LOAD, ("call", "sub"), BACK), sub=sub, zub=(block(("go", 0)),))
        self.told(code, (KEPT, BOTH, BOTH, KEPT, KEPT, KEPT, UNMET, UNMET, UNMET, UNMET, KEPT), (False, True, True))

    def test_calls_at_several_places(self):
        code = code_of(block(LOAD, ("call", "sub"), ("call", "sub"), BACK), sub=LEAF)
        self.told(code, (KEPT, BOTH, BOTH, BOTH, KEPT), (False, True))
        code = code_of(block(LOAD, ("call", "sub"), STORE, ("call", "sub"), BACK), sub=LEAF)
        self.told(code, (KEPT, BOTH, BOTH, NEITHER, NEITHER, KEPT), (False, False))
        code = code_of(block(("call", "sub"), LOAD, ("call", "sub"), BACK), sub=LEAF)
        self.told(code, (KEPT, KEPT, BOTH, BOTH, KEPT), (False, False))

    def test_calls_by_ones_that_are_called(self):
        code = code_of(block(LOAD, ("call", "sub"), BACK), sub=(block(("call", "zub"), BACK),), zub=LEAF)
        self.told(code, (KEPT, BOTH, BOTH, KEPT, KEPT, KEPT), (False, True, True))
        code = code_of(block(("call", "sub"), BACK), sub=(block(("call", "zub"), BACK),), zub=LEAF)
        self.told(code, (KEPT, KEPT, KEPT, KEPT, KEPT), (False, False, False))
        code = code_of(block(("call", "sub"), BACK), sub=(block(LOAD, ("call", "zub"), BACK),), zub=LEAF)
        self.told(code, (KEPT, BOTH, KEPT, BOTH, BOTH, KEPT), (False, False, True))
        # Called ahead of those that call it: what begins of the later ones is comes to be known last.
        code = code_of(block(("call", "zub"), BACK), aub=LEAF, bub=(block(("call", "aub"), BACK),), zub=(block(("call", "bub"), BACK),))
        self.told(code, (KEPT,) * 7, (False, False, False, False))

    def test_ones_that_call_themselves(self):
        sub = (block(("if", "x", 1, 2)), block(("call", "sub"), BACK), block(BACK))
        code = code_of(block(LOAD, ("call", "sub"), BACK), sub=sub)
        self.told(code, (KEPT, BOTH, BOTH, KEPT, KEPT, KEPT, KEPT), (False, True))
        sub = (block(("if", "x", 1, 2)), block(("call", "sub"), STORE, BACK), block(LOAD, BACK))
        code = code_of(block(LOAD, ("call", "sub"), BACK), sub=sub)
        self.told(code, (KEPT, BOTH, NEITHER, KEPT, KEPT, NEITHER, NEITHER, KEPT, BOTH), (False, True))

    def test_one_that_is_not_met(self):
        code = code_of(block(LOAD, BACK), sub=(block(STORE, ("call", "zub"), BACK),), zub=LEAF)
        self.told(code, (KEPT, BOTH, UNMET, UNMET, UNMET, UNMET), (False, True, True))

    def test_places_that_are_not_met(self):
        code = code_of(block(("set", "x", "+", 1, 1), BACK), block(STORE, ("go", 0)))
        self.told(code, (KEPT, NEITHER, UNMET, UNMET), (False,))

    def test_a_name_that_does_not_stand_in_the_code(self):
        code = code_of(block(LOAD, ("call", "sub"), STORE, BACK), sub=LEAF)
        self.told(code, (KEPT, KEPT, KEPT, NEITHER, KEPT), (False, False), name="other")

    def test_each_name_and_cell_for_itself(self):
        code = code_of(block(LOAD, ("load", "y", (("b",), 0, 1)), BACK))
        self.told(code, (KEPT, KEPT, BOTH), (False,), name="y", cell=("b", 1))
        self.told(code, (KEPT, KEPT, NEITHER), (False,), name="y")
        self.told(code, (KEPT, NEITHER, NEITHER), (False,), name="x", cell=("b", 1))

    def test_against_all_that_can_be_tried(self):
        codes = [some_code(seed) for seed in range(60)] + [busy_code(seed) for seed in range(150)]
        for number, code in enumerate(codes):
            name, cell = ("x", "i")[number % 2], (("a", 0), ("c", 0))[number // 2 % 2]
            points, begun = hold_table(code, name, cell)
            self.same(tuple([place for place, met, kept, found in points if met]), met_places(code))
            kept_by = {routine: tried_keeps(code, routine, name, cell, True) for routine in routines_of(code)}
            found_by = {routine: tried_keeps(code, routine, name, cell, False) for routine in routines_of(code)}
            for place, met, kept, found in points:
                self.same((kept, found), (kept_by[place[0]][place], found_by[place[0]][place]) if met else (True, True))
            tried = tried_holds(code, name, cell)
            self.same(holders(code, name, cell), [place for place in places_in(code) if tried.get(place)])

    def test_begins_only_where_it_has_to_be_false(self):
        for seed in range(150):
            code = busy_code(seed)
            points, begun = hold_table(code, "x", CELL)
            holds = holders(code, "x", CELL)
            rows = {place: code_row for place, code_row in zip(places_in(code), [
                row for name, blocks in code[1] for rows, end in blocks for row in (*rows, end)])}
            for routine, truth in begun:
                calls = [place for place, met, kept, found in points if met and rows[place] == ("call", routine)]
                self.assertIs(truth, routine != "main" and all([place in holds for place in calls]))

    def test_by_name(self):
        self.same(hold_table(cell=("b", 0), name="v", code=CODE), hold_table(CODE, "v", ("b", 0)))


if __name__ == "__main__":
    unittest.main()
