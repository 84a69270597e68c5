"""[39] to [42]: what a CELL is MADE by within a routine, and where it PASSES."""

import unittest

from storeways.codes import places_in, routines_of
from storeways.errors import NoPlace, NoRoutine
from storeways.faces import cells_in
from storeways.passing import made_at, summary
from tests.samples import (
    A0, A1, ANY_A, BACK, CELL, CODE, LEAST, LOAD, STRANGE, Case, block, busy_code, code_of, some_code, store,
)
from tests.tried import apart, tried_within

A_OR_B = (("a", "b"), "p", 0)
NOTHING = ((), False)
PASSES = ((), True)


def at(block_number, row, name="main"):
    return (name, block_number, row)


class TestMade(Case):
    def told(self, code, *cases, cell=CELL):
        """Each case is (PLACE, what is told of it)."""
        for place, want in cases:
            with self.subTest(place=place):
                self.same(self.untouched(made_at, code, place, cell), want)

    def test_the_first_place_and_rows_that_let_by(self):
        rows = (LOAD, ("touch", A0), ("set", "x", "+", 1, 2), ("tell", 1), ("need", 0))
        self.told(code_of(block(*rows, BACK)), *[(at(0, row), PASSES) for row in range(6)])
        self.told(LEAST, (at(0, 0), PASSES))

    def test_a_store_of_the_cell_alone(self):
        code = code_of(block(store(), LOAD, store(), BACK))
        self.told(code, (at(0, 0), PASSES), (at(0, 1), ((at(0, 0),), False)), (at(0, 2), ((at(0, 0),), False)),
                  (at(0, 3), ((at(0, 2),), False)))

    def test_a_store_of_other_cells(self):
        self.told(code_of(block(store(A1), store((("b",), 0, "i")), BACK)), (at(0, 1), PASSES), (at(0, 2), PASSES))

    def test_a_store_of_the_cell_and_others(self):
        for address in (ANY_A, A_OR_B, (("a", "b"), "p", "i"), (("b", "a", "c"), "p", "j")):
            code = code_of(block(store(address), store(address), BACK))
            self.told(code, (at(0, 1), ((at(0, 0),), True)), (at(0, 2), ((at(0, 0), at(0, 1)), True)))
            code = code_of(block(store(), store(address), BACK))
            self.told(code, (at(0, 2), ((at(0, 0), at(0, 1)), False)))
            code = code_of(block(store(address), store(), BACK))
            self.told(code, (at(0, 2), ((at(0, 1),), False)))

    def test_sure_by_names_too(self):
        code = code_of(block(store((("c",), "p", "i")), store((("a", "c"), 1, 0)), BACK))
        self.told(code, (at(0, 1), ((at(0, 0),), False)), (at(0, 2), ((at(0, 1),), False)), cell=("c", 0))
        self.told(code, (at(0, 2), PASSES))

    def test_one_of_several_objects_by_its_number(self):
        code = code_of(block(store((("b", "a"), 1, 0)), store((("b", "a"), 0, 0)), BACK))
        self.told(code, (at(0, 1), ((at(0, 0),), False)), (at(0, 2), ((at(0, 0),), False)))
        self.told(code, (at(0, 1), PASSES), (at(0, 2), ((at(0, 1),), False)), cell=("b", 0))

    def test_ways_that_meet(self):
        code = code_of(block(("if", "x", 1, 2)), block(store(), ("go", 3)), block(store(ANY_A), ("go", 3)), block(BACK))
        self.told(code, (at(1, 0), PASSES), (at(1, 1), ((at(1, 0),), False)), (at(2, 1), ((at(2, 0),), True)),
                  (at(3, 0), ((at(1, 0), at(2, 0)), True)))
        code = code_of(block(("if", "x", 1, 2)), block(store(), ("go", 3)), block(store(), ("go", 3)), block(BACK))
        self.told(code, (at(3, 0), ((at(1, 0), at(2, 0)), False)))

    def test_a_loop(self):
        code = code_of(block(store(), ("go", 1)), block(LOAD, store(), ("if", "x", 1, 2)), block(BACK))
        both = (at(0, 0), at(1, 1))
        self.told(code, (at(1, 0), (both, False)), (at(1, 1), (both, False)), (at(1, 2), ((at(1, 1),), False)),
                  (at(2, 0), ((at(1, 1),), False)))

    def test_what_comes_round_to_the_first_place(self):
        code = code_of(block(LOAD, store(), ("if", "x", 0, 1)), block(BACK))
        self.told(code, (at(0, 0), ((at(0, 1),), True)), (at(0, 1), ((at(0, 1),), True)), (at(1, 0), ((at(0, 1),), False)))

    def test_a_block_that_goes_to_itself_alone(self):
        self.told(code_of(block(("go", 0))), (at(0, 0), PASSES))

    def test_what_is_not_come_to(self):
        code = code_of(block(BACK), block(store(), LOAD, ("go", 0)))
        self.told(code, (at(1, 0), NOTHING), (at(1, 1), NOTHING), (at(1, 2), NOTHING), (at(0, 0), PASSES))

    def test_call_of_one_that_stores_on_all_its_ways(self):
        sub = (block(("if", "x", 1, 2)), block(store(), BACK), block(store(), BACK))
        code = code_of(block(store(), ("call", "sub"), BACK), sub=sub)
        self.told(code, (at(0, 1), ((at(0, 0),), False)), (at(0, 2), ((at(1, 0, "sub"), at(2, 0, "sub")), False)),
                  (at(0, 0, "sub"), PASSES), (at(1, 1, "sub"), ((at(1, 0, "sub"),), False)))

    def test_call_of_one_that_stores_on_some(self):
        sub = (block(("if", "x", 1, 2)), block(store(), BACK), block(BACK))
        self.told(code_of(block(store(), ("call", "sub"), BACK), sub=sub), (at(0, 2), ((at(0, 0), at(1, 0, "sub")), False)))
        self.told(code_of(block(("call", "sub"), BACK), sub=sub), (at(0, 1), ((at(1, 0, "sub"),), True)))

    def test_call_of_one_that_stores_on_none(self):
        sub = (block(LOAD, store(A1), BACK),)
        self.told(code_of(block(store(), ("call", "sub"), BACK), sub=sub), (at(0, 2), ((at(0, 0),), False)))
        self.told(code_of(block(("call", "sub"), BACK), sub=sub), (at(0, 1), PASSES))

    def test_call_of_one_that_never_comes_back(self):
        for sub in ((block(store(), ("go", 0)),), (block(("call", "sub"), BACK),), (block(("go", 0)), block(BACK))):
            code = code_of(block(store(), ("call", "sub"), LOAD, ("go", 1)), block(BACK), sub=sub)
            self.told(code, (at(0, 1), ((at(0, 0),), False)), (at(0, 2), NOTHING), (at(0, 3), NOTHING), (at(1, 0), NOTHING))

    def test_one_that_never_comes_back_on_one_way(self):
        code = code_of(block(("if", "x", 1, 2)), block(store(), ("call", "sub"), ("go", 2)), block(BACK), sub=(block(("go", 0)),))
        self.told(code, (at(2, 0), PASSES), (at(1, 1), ((at(1, 0),), False)), (at(1, 2), NOTHING))

    def test_one_that_calls_itself(self):
        sub = (block(("if", "x", 1, 2)), block(("call", "sub"), LOAD, store(), BACK), block(BACK))
        code = code_of(block(("call", "sub"), BACK), sub=sub)
        inner = (at(1, 2, "sub"),)
        self.told(code, (at(1, 0, "sub"), PASSES), (at(1, 1, "sub"), (inner, True)), (at(1, 3, "sub"), (inner, False)),
                  (at(0, 1), (inner, True)))

    def test_ones_that_call_one_another(self):
        sub = (block(("if", "x", 1, 2)), block(("call", "zub"), store(ANY_A), BACK), block(BACK))
        zub = (block(("if", "x", 1, 2)), block(("call", "sub"), store(), BACK), block(("call", "sub"), BACK))
        code = code_of(block(("call", "sub"), ("call", "zub"), BACK), sub=sub, zub=zub)
        ones = (at(1, 1, "sub"), at(1, 1, "zub"))
        self.told(code, (at(0, 1), (ones, True)), (at(0, 2), (ones, True)), (at(1, 1, "sub"), (ones, True)),
                  (at(1, 1, "zub"), (ones, True)), (at(1, 2, "zub"), ((at(1, 1, "zub"),), False)))

    def test_one_that_nobody_calls(self):
        code = code_of(block(BACK), sub=(block(store(), ("call", "zub"), BACK),), zub=(block(store(ANY_A), BACK),))
        self.told(code, (at(0, 1, "sub"), ((at(0, 0, "sub"),), False)), (at(0, 2, "sub"), ((at(0, 0, "sub"), at(0, 0, "zub")), False)),
                  (at(0, 1, "zub"), ((at(0, 0, "zub"),), True)))

    def test_made_by_what_is_called_ahead_of_others(self):
        code = code_of(block(("call", "aub"), ("call", "zub"), BACK), aub=(block(store(ANY_A), BACK),), zub=(block(store(ANY_A), BACK),))
        self.told(code, (at(0, 2), ((at(0, 0, "aub"), at(0, 0, "zub")), True)))

    def test_against_all_that_can_be_tried(self):
        codes = [some_code(seed) for seed in range(60)] + [busy_code(seed) for seed in range(120)]
        for number, code in enumerate(codes):
            cell = cells_in(code)[number % len(cells_in(code))]
            for name in routines_of(code):
                tried = tried_within(code, name, cell)
                for place in places_in(code):
                    if place[0] == name:
                        self.same(made_at(code, place, cell), apart(tried.get(place, set())))

    def test_refused(self):
        for thing in STRANGE:
            self.refused(NoPlace, {"place": thing}, made_at, CODE, thing, CELL)
        wrong = (("main", 0, True), ("main", False, 0), ("main", 9, 0), ("main", 0, 5), ("main", 0, -1), ("main", -1, 0), ("none", 0, 0),
                 ("a", 0, 0), ["main", 0, 0], ("main", 0), ("main", 0, 0, 0), ("main", [0], 0), (["main"], 0, 0), ("main", 0, "0"),
                 ("main", 0, None), 0, "main:0:0")
        for thing in wrong:
            self.refused(NoPlace, {"place": thing}, made_at, CODE, thing, CELL)
            self.refused(NoPlace, {"place": thing}, made_at, code=CODE, place=thing, cell=CELL)

    def test_by_name(self):
        code = code_of(block(store(), BACK))
        self.same(made_at(code=code, place=at(0, 1), cell=CELL), ((at(0, 0),), False))
        self.same(made_at(cell=("b", 1), place=at(0, 1), code=code), PASSES)


class TestSummary(Case):
    def told(self, want, *blocks, cell=CELL, **routines):
        """Of a routine sub of these blocks; main doesn't even call it."""
        code = code_of(block(BACK), sub=blocks, **routines)
        self.same(self.untouched(summary, code, "sub", cell), want)

    def test_all_backs_together(self):
        self.told(PASSES, block(BACK))
        self.told(((at(0, 0, "sub"),), False), block(store(), BACK))
        self.told(((at(0, 0, "sub"),), True), block(store(ANY_A), BACK))
        self.told(PASSES, block(store(A1), BACK))
        self.told(((at(1, 0, "sub"), at(2, 0, "sub")), False), block(("if", "x", 1, 2)), block(store(), BACK), block(store(), BACK))
        self.told(((at(1, 0, "sub"),), True), block(("if", "x", 1, 2)), block(store(), BACK), block(BACK))
        self.told(((at(2, 0, "sub"),), True), block(("if", "x", 2, 1)), block(BACK), block(store(), BACK))

    def test_never_back(self):
        self.told(NOTHING, block(store(), ("go", 0)))
        self.told(NOTHING, block(store(), ("go", 0)), block(store(), BACK))
        self.told(NOTHING, block(store(), ("call", "sub"), BACK))
        self.told(NOTHING, block(("call", "zub"), BACK), zub=(block(("call", "sub"), store(), BACK),))

    def test_by_what_it_calls(self):
        self.told(((at(0, 0, "zub"),), False), block(store(), ("call", "zub"), BACK), zub=(block(store(), BACK),))
        self.told(((at(0, 0, "sub"), at(0, 0, "zub")), False), block(store(), ("call", "zub"), BACK), zub=(block(store(ANY_A), BACK),))

    def test_of_main(self):
        code = code_of(block(store(), ("call", "sub"), BACK), sub=(block(store(ANY_A), BACK),))
        self.same(summary(code, "main", CELL), ((at(0, 0), at(0, 0, "sub")), False))
        self.same(summary(LEAST, "main", CELL), PASSES)

    def test_it_is_what_its_backs_have(self):
        for seed in range(80):
            code = busy_code(seed)
            for cell in cells_in(code):
                for name, blocks in code[1]:
                    backs = [(name, number, len(rows)) for number, (rows, end) in enumerate(blocks) if end == BACK]
                    told = [made_at(code, back, cell) for back in backs]
                    made = {source for one, passes in told for source in one}
                    self.same(summary(code, name, cell), (tuple(sorted(made)), any([passes for one, passes in told])))

    def test_rows_that_neither_store_nor_call_turn_nothing(self):
        code = code_of(block(LOAD, store(), ("call", "sub"), BACK), sub=(block(store(ANY_A), ("tell", 1), BACK),))
        for row in (("tell", "x"), ("need", 0), ("set", "y", "*", 2, 2), ("touch", ANY_A)):
            other = code_of(block(row, store(), ("call", "sub"), BACK), sub=(block(store(ANY_A), row, BACK),))
            for place in places_in(code):
                self.same(made_at(other, place, CELL), made_at(code, place, CELL))

    def test_refused(self):
        for thing in (*STRANGE, "none", "a", ("main",), ["main"], 0, ("main", True)):
            self.refused(NoRoutine, {"name": thing}, summary, CODE, thing, CELL)
            self.refused(NoRoutine, {"name": thing}, summary, code=CODE, name=thing, cell=CELL)

    def test_by_name(self):
        self.same(summary(cell=("b", 0), name="sub", code=CODE), summary(CODE, "sub", ("b", 0)))


class TestSteps(Case):
    def test_more_than_the_bounds(self):
        many = 40
        rows = [store(ANY_A) for _ in range(many)]
        code = code_of(block(*rows, ("call", "sub"), BACK), sub=(block(*rows, BACK),))
        want = tuple([at(0, row) for row in range(many)] + [at(0, row, "sub") for row in range(many)])
        self.same(made_at(code, at(0, many + 1), CELL), (want, True))

    def test_each_cell_for_itself(self):
        code = code_of(block(store(), ("go", 1)), block(store(A1), ("if", "x", 1, 0)))
        self.same(made_at(code, at(0, 0), CELL), ((at(0, 0),), True))
        self.same(made_at(code, at(0, 0), ("a", 1)), ((at(1, 0),), True))


if __name__ == "__main__":
    unittest.main()
