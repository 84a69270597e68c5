"""[27], [28], [29], [36]: OUTCOMES and TRAILS of RUNS, by [4] and [5]."""

import unittest

from storeways.faces import cells_in
from storeways.codes import row_at
from storeways.operands import is_start, worth
from storeways.running import run, trail
from storeways.waychecker import lets_way
from tests.samples import BACK, CODE, LEAST, OBJECTS, Case, block, code_of, some_code, some_start

A0, A1, A2, B0, B1, C0 = cells_in(CODE)
ZEROS = tuple([(cell, 0) for cell in cells_in(CODE)])


def cells_with(**told):
    """The cells of an OUTCOME: those told, such as a1=3, and 0 for all else."""
    return tuple([(cell, told.get(f"{cell[0]}{cell[1]}", 0)) for cell in cells_in(CODE)])


def starting(*names, cells=()):
    """A START of these pairs."""
    return (tuple(sorted(names)), tuple(sorted(cells)))


def of_rows(*rows):
    """CODE whose main has one block of these ROWS."""
    return code_of(block(*rows, BACK))


class RunCase(Case):
    def told(self, want, code, start=None, fuel=100):
        self.same(self.untouched(run, code, start, fuel), want)

    def traced(self, want, *rows, names=(), cells=()):
        """Main of these ROWS ends with this TRACE."""
        self.same(self.untouched(run, of_rows(*rows), starting(*names, cells=cells), 1)[:2], ("ends", want))

    def faults(self, want, *rows, names=(), cells=()):
        """Main of these ROWS has a FAULT behind this TRACE."""
        self.told(("fault", want), of_rows(*rows), starting(*names, cells=cells), 1)


class TestRows(RunCase):
    def test_nothing(self):
        self.told(("ends", (), ((("a", 0), 0),)), LEAST)
        self.told(("ends", (), ZEROS), of_rows())

    def test_tell(self):
        self.traced((3, -7, 0), ("tell", 3), ("tell", -7), ("tell", "x"))
        self.traced((5, 5), ("tell", "x"), ("tell", "x"), names=(("x", 5),))

    def test_load(self):
        self.traced((4,), ("load", "x", (("a",), 0, 1)), ("tell", "x"), names=(("x", 9),), cells=((A1, 4),))
        self.traced((0,), ("load", "x", (("a",), 0, 1)), ("tell", "x"), names=(("x", 9),))

    def test_load_by_its_own_name(self):
        self.traced((2, 7), ("load", "i", (("a",), 0, "i")), ("tell", "i"), ("load", "i", (("a",), 0, "i")), ("tell", "i"),
                    names=(("i", 1),), cells=((A1, 2), (A2, 7)))

    def test_store(self):
        self.told(("ends", (), cells_with(a2=-7)), of_rows(("store", (("a",), 0, 2), -7)))
        self.told(("ends", (), cells_with(b1=6, c0=1)), of_rows(("store", (("c", "b"), "p", "i"), "x")),
                  starting(("p", 1), ("i", 1), ("x", 6), cells=((B1, 5), (C0, 1))))

    def test_a_store_gives_what_the_operand_has_then(self):
        self.told(("ends", (), cells_with(a0=1, a1=2)),
                  of_rows(("store", (("a",), 0, 0), "x"), ("set", "x", "+", "x", 1), ("store", (("a",), 0, 1), "x")),
                  starting(("x", 1)))

    def test_the_last_store_stands(self):
        self.told(("ends", (2,), cells_with(a0=3)),
                  of_rows(("store", (("a",), 0, 0), 1), ("store", (("a",), 0, 0), 2), ("load", "x", (("a",), 0, 0)),
                          ("tell", "x"), ("store", (("a",), 0, 0), 3)))

    def test_touch_does_nothing_else(self):
        self.told(("ends", (), cells_with(a1=5)), of_rows(("touch", (("a",), 0, "x"))), starting(("x", 1), cells=((A1, 5),)))
        self.traced((1,), ("touch", (("a",), 0, "x")), ("tell", "x"), names=(("x", 1),), cells=((A1, 5),))

    def test_set(self):
        for sign, want in (("+", 4), ("-", 10), ("*", -21), ("<", 0)):
            self.traced((want,), ("set", "x", sign, 7, -3), ("tell", "x"))
            self.traced((want,), ("set", "x", sign, "y", "z"), ("tell", "x"), names=(("y", 7), ("z", -3)))

    def test_less(self):
        for one, other, want in ((1, 2, 1), (2, 2, 0), (3, 2, 0), (-1, 0, 1), (0, -1, 0)):
            self.traced((want,), ("set", "x", "<", one, other), ("tell", "x"))

    def test_set_by_its_own_name(self):
        self.traced((6, 36, 0), ("set", "x", "+", "x", "x"), ("tell", "x"), ("set", "x", "*", "x", "x"), ("tell", "x"),
                    ("set", "x", "-", "x", "x"), ("tell", "x"), names=(("x", 3),))

    def test_a_number_of_any_size(self):
        far = 10 ** 199
        self.traced((far * far,), ("set", "x", "*", far, far), ("tell", "x"))

    def test_a_truth_is_told_by_no_row(self):
        outcome = run(of_rows(("set", "x", "<", 0, 1), ("tell", "x"), ("store", (("a",), 0, 0), "x")))
        self.same(outcome, ("ends", (1,), cells_with(a0=1)))

    def test_need(self):
        self.traced((1, 2), ("tell", 1), ("need", 1), ("need", -1), ("need", "x"), ("tell", 2), names=(("x", 5),))
        self.faults((1,), ("tell", 1), ("need", 0), ("tell", 2))
        self.faults((1,), ("tell", 1), ("need", "x"), ("tell", 2))
        self.faults((), ("need", "x"), names=(("x", 0),))

    def test_names_like_objects_and_routines_are_their_own(self):
        self.told(("ends", (3, 4), cells_with(a0=9)),
                  code_of(block(("tell", "a"), ("tell", "sub"), BACK), sub=(block(BACK),)),
                  starting(("a", 3), ("sub", 4), cells=((A0, 9),)))


class TestFaults(RunCase):
    def test_index(self):
        for word, row in (("load", ("load", "x", (("a",), 0, "i"))), ("store", ("store", (("a",), 0, "i"), 1)),
                          ("touch", ("touch", (("a",), 0, "i")))):
            for index in (0, 1, 2):
                self.traced((1, 2), ("tell", 1), row, ("tell", 2), names=(("i", index),))
            for index in (-1, -3, 3, 4, 10 ** 9, -10 ** 9):
                self.faults((1,), ("tell", 1), row, ("tell", 2), names=(("i", index),))

    def test_pick(self):
        for row in (("load", "x", (("a", "b"), "p", 0)), ("store", (("a", "b"), "p", 0), 1), ("touch", (("a", "b"), "p", 0))):
            for pick in (0, 1):
                self.traced((1, 2), ("tell", 1), row, ("tell", 2), names=(("p", pick),))
            for pick in (-1, -2, 2, 3, 10 ** 9, -10 ** 9):
                self.faults((1,), ("tell", 1), row, ("tell", 2), names=(("p", pick),))

    def test_index_by_the_object_that_is_picked(self):
        row = ("touch", (("a", "b", "c"), "p", "i"))
        for pick, size in enumerate((3, 2, 1)):
            self.traced((), row, names=(("p", pick), ("i", size - 1)))
            self.faults((), row, names=(("p", pick), ("i", size)))

    def test_a_single_object_by_names(self):
        self.traced((), ("touch", (("c",), "p", "i")))
        self.faults((), ("touch", (("c",), "p", "i")), names=(("p", 1),))
        self.faults((), ("touch", (("c",), "p", "i")), names=(("i", 1),))

    def test_a_store_with_a_fault_stores_nothing(self):
        # What a CELL has behind a FAULT is told by no OUTCOME: the TRAIL has no such "store".
        code = of_rows(("store", (("a",), 0, 0), 1), ("store", (("a",), 0, "i"), 2), ("store", (("a",), 0, 1), 3))
        self.told(("fault", ()), code, starting(("i", 3)))
        self.same(trail(code, starting(("i", 3))), ((("main", 0, 0), A0),))
        self.same(trail(code, starting(("i", 2))), tuple([(("main", 0, k), cell) for k, cell in enumerate((A0, A2, A1, None))]))

    def test_in_a_routine(self):
        code = code_of(block(("tell", 1), ("call", "sub"), ("tell", 3), BACK), sub=(block(("tell", 2), ("need", 0), BACK),))
        self.told(("fault", (1, 2)), code)

    def test_ahead_of_the_lack_of_fuel(self):
        code = code_of(block(("need", 0), ("go", 0)))
        self.told(("fault", ()), code, None, 1)
        self.told(("fuel", ()), code, None, 0)


class TestEnds(RunCase):
    def test_go(self):
        self.told(("ends", (1, 3, 2), ZEROS), code_of(block(("tell", 1), ("go", 2)), block(("tell", 2), BACK), block(("tell", 3), ("go", 1))))

    def test_if(self):
        code = code_of(block(("if", "x", 1, 2)), block(("tell", 1), BACK), block(("tell", 2), BACK))
        for number, want in ((1, 1), (-1, 1), (10 ** 9, 1), (0, 2)):
            self.told(("ends", (want,), ZEROS), code, starting(("x", number)))
        self.told(("ends", (2,), ZEROS), code)
        self.told(("ends", (2,), ZEROS), code_of(block(("if", 0, 1, 2)), *code[1][0][1][1:]))
        self.told(("ends", (1,), ZEROS), code_of(block(("if", -5, 1, 2)), *code[1][0][1][1:]))

    def test_a_loop(self):
        code = code_of(block(("tell", "x"), ("set", "x", "-", "x", 1), ("if", "x", 0, 1)), block(BACK))
        self.told(("ends", (4, 3, 2, 1), ZEROS), code, starting(("x", 4)))

    def test_calls_come_back_behind_themselves(self):
        code = code_of(block(("tell", 1), ("call", "sub"), ("tell", 2), ("call", "sub"), ("tell", 3), ("go", 1)),
                       block(("call", "zub"), ("tell", 4), BACK),
                       sub=(block(("tell", 10), ("go", 1)), block(("tell", 11), BACK)),
                       zub=(block(("tell", 20), ("call", "sub"), ("tell", 21), BACK),))
        self.told(("ends", (1, 10, 11, 2, 10, 11, 3, 20, 10, 11, 21, 4), ZEROS), code)

    def test_a_call_as_the_last_row(self):
        code = code_of(block(("call", "sub"), ("go", 1)), block(("tell", 2), ("call", "sub"), BACK), sub=(block(("tell", 1), BACK),))
        self.told(("ends", (1, 2, 1), ZEROS), code)

    def test_names_and_cells_are_one_for_all_routines(self):
        code = code_of(block(("set", "x", "+", 5, 0), ("call", "sub"), ("tell", "x"), ("load", "y", (("b",), 0, 1)), ("tell", "y"), BACK),
                       sub=(block(("tell", "x"), ("set", "x", "+", 6, 0), ("store", (("b",), 0, 1), "x"), BACK),))
        self.told(("ends", (5, 6, 6), cells_with(b1=6)), code)

    def test_a_routine_that_calls_itself(self):
        sub = (block(("tell", "x"), ("set", "x", "-", "x", 1), ("if", "x", 1, 2)),
               block(("call", "sub"), ("tell", "x"), ("set", "x", "+", "x", 1), BACK), block(("tell", 100), BACK))
        code = code_of(block(("call", "sub"), BACK), sub=sub)
        self.told(("ends", (3, 2, 1, 100, 0, 1), ZEROS), code, starting(("x", 3)))

    def test_many_calls_in_one_another(self):
        code = code_of(block(("call", "sub"), BACK), sub=(block(("call", "sub"), BACK),))
        self.told(("fuel", ()), code, None, 5000)
        self.same(len(trail(code, None, 5000)), 4999)

    def test_the_back_of_main_ends_it(self):
        self.told(("ends", (1,), ZEROS), code_of(block(("tell", 1), BACK), block(("tell", 2), BACK)))


class TestFuel(RunCase):
    def least(self, code, least, trace, start=None):
        """It ends by this FUEL and by more, by less the FUEL doesn't reach."""
        for fuel in range(least):
            self.same(run(code, start, fuel)[0], "fuel")
        for fuel in (least, least + 1, least + 100):
            self.same(run(code, start, fuel)[:2], ("ends", trace))

    def test_none(self):
        for code in (LEAST, CODE, of_rows(("tell", 1)), of_rows(("need", 0))):
            self.told(("fuel", ()), code, None, 0)
            self.same(trail(code, None, 0), ())

    def test_the_beginning(self):
        self.least(of_rows(("tell", 1)), 1, (1,))

    def test_go_and_if(self):
        self.least(code_of(block(("go", 1)), block(("tell", 1), BACK)), 2, (1,))
        self.least(code_of(block(("if", 1, 1, 0)), block(("tell", 1), BACK)), 2, (1,))
        self.least(code_of(block(("if", 0, 0, 1)), block(("tell", 1), BACK)), 2, (1,))

    def test_a_back_takes_none(self):
        self.least(code_of(block(("call", "sub"), ("tell", 1), BACK), sub=(block(BACK),)), 2, (1,))
        self.least(code_of(block(("call", "sub"), ("call", "sub"), ("tell", 1), BACK), sub=(block(BACK),)), 3, (1,))

    def test_a_loop(self):
        code = code_of(block(("set", "x", "-", "x", 1), ("if", "x", 0, 1)), block(BACK))
        self.least(code, 6, (), starting(("x", 5)))

    def test_what_was_told_ahead(self):
        ring = code_of(block(("tell", "x"), ("set", "x", "+", "x", 1), ("go", 0)))
        for fuel in range(9):
            self.told(("fuel", tuple(range(fuel))), ring, None, fuel)
        self.told(("fuel", (1,)), code_of(block(("tell", 1), ("call", "sub"), BACK), sub=(block(("tell", 2), BACK),)), None, 1)

    def test_a_call_that_never_comes_back(self):
        code = code_of(block(("call", "sub"), ("tell", 9), BACK), sub=(block(("tell", 1), ("go", 0)),))
        self.told(("fuel", (1, 1, 1)), code, None, 4)

    def test_a_hundred_where_none_is_handed_in(self):
        ring = code_of(block(("tell", 1), ("go", 0)))
        self.same(run(ring), ("fuel", (1,) * 100))
        self.same(run(ring, ((), ())), ("fuel", (1,) * 100))
        self.same(len(trail(ring)), 199)
        enough = code_of(block(("set", "x", "-", "x", 1), ("if", "x", 0, 1)), block(BACK))
        self.same(run(enough, starting(("x", 99)))[0], "ends")
        self.same(run(enough, starting(("x", 100)))[0], "fuel")


class TestStarts(RunCase):
    CODE = of_rows(("tell", "x"), ("load", "y", (("a",), 0, 1)), ("tell", "y"))

    def test_none_and_the_empty_one(self):
        for start in (None, ((), ())):
            self.told(("ends", (0, 0), ZEROS), self.CODE, start)
        self.same(run(self.CODE), ("ends", (0, 0), ZEROS))

    def test_some_names_and_cells(self):
        self.told(("ends", (5, 0), ZEROS), self.CODE, starting(("x", 5), ("z", 7)))
        self.told(("ends", (0, 6), cells_with(a1=6, c0=-1)), self.CODE, starting(cells=((A1, 6), (C0, -1))))
        self.told(("ends", (5, 6), cells_with(a1=6)), self.CODE, starting(("x", 5), cells=((A1, 6),)))

    def test_names_that_the_code_has_not(self):
        self.told(("ends", (0, 0), ZEROS), self.CODE, starting(("unheard", 5)))

    def test_all_cells_are_told(self):
        every = tuple([(cell, k - 2) for k, cell in enumerate(cells_in(CODE))])
        self.told(("ends", (0, -1), every), self.CODE, ((), every))

    def test_by_name(self):
        self.same(run(code=self.CODE, start=starting(("x", 5)), fuel=1), ("ends", (5, 0), ZEROS))
        self.same(run(fuel=0, code=self.CODE), ("fuel", ()))
        self.same(trail(fuel=0, start=None, code=self.CODE), ())
        self.same(len(trail(code=self.CODE, start=starting(("x", 5)))), 4)


class TestTrails(RunCase):
    def walked(self, want, code, start=None, fuel=100):
        self.same(self.untouched(trail, code, start, fuel), want)

    def test_each_choice(self):
        code = code_of(block(("load", "x", (("a", "b"), "p", "i")), ("store", (("c",), 0, 0), "x"), ("touch", (("a",), 0, 2)),
                             ("set", "y", "+", 1, 1), ("tell", "y"), ("need", "y"), ("call", "sub"), ("go", 1)),
                       block(("if", "y", 2, 0)), block(BACK), sub=(block(BACK),))
        rows = [("main", 0, k) for k in range(7)]
        self.walked(tuple(zip(rows, (B1, C0, A2, None, None, None, None)))
                    + ((("sub", 0, 0), None), (("main", 0, 7), None), (("main", 1, 0), 2), (("main", 2, 0), None)),
                    code, starting(("p", 1), ("i", 1)))

    def test_both_ways_of_an_if(self):
        code = code_of(block(("if", "x", 1, 2)), block(BACK), block(BACK))
        self.walked(((("main", 0, 0), 1), (("main", 1, 0), None)), code, starting(("x", -1)))
        self.walked(((("main", 0, 0), 2), (("main", 2, 0), None)), code)
        self.walked(((("main", 0, 0), 1), (("main", 1, 0), None)), code_of(block(("if", "x", 1, 1)), block(BACK)))

    def test_none_of_a_row_with_a_fault(self):
        for row in (("need", 0), ("load", "x", (("a",), 0, "i")), ("store", (("a",), 0, "i"), 1), ("touch", (("a",), "i", 0))):
            self.walked(((("main", 0, 0), None),), of_rows(("tell", 1), row, ("tell", 2)), starting(("i", 3)))

    def test_none_of_what_would_enter_one_block_more(self):
        for row in (("go", 0), ("if", "x", 0, 0)):
            code = code_of(block(("tell", 1), row))
            choice = 0 if row[0] == "if" else None
            self.walked(((("main", 0, 0), None),), code, None, 1)
            self.walked(((("main", 0, 0), None), (("main", 0, 1), choice), (("main", 0, 0), None)), code, None, 2)
        code = code_of(block(("call", "sub"), BACK), sub=(block(BACK),))
        self.walked((), code, None, 1)
        self.walked(((("main", 0, 0), None), (("sub", 0, 0), None), (("main", 0, 1), None)), code, None, 2)

    def test_the_back_that_ends_it(self):
        self.walked(((("main", 0, 0), None),), LEAST)

    def test_calls_in_one_another(self):
        code = code_of(block(("call", "zub"), BACK), sub=(block(BACK),), zub=(block(("call", "sub"), BACK),))
        places = (("main", 0, 0), ("zub", 0, 0), ("sub", 0, 0), ("zub", 0, 1), ("main", 0, 1))
        self.walked(tuple([(place, None) for place in places]), code)


class TestWhatFollows(RunCase):
    """[29], and [28]: what a TRAIL has is a FREE WAY."""

    def cases(self):
        for seed in range(120):
            yield some_code(seed), some_start(1000 + seed)

    def test_all_words_are_come_to(self):
        words = [run(code, start, 40)[0] for code, start in self.cases()]
        self.same(sorted(set(words)), ["ends", "fault", "fuel"])

    def test_more_fuel(self):
        for code, start in self.cases():
            outcomes = [run(code, start, fuel) for fuel in range(12)]
            trails = [trail(code, start, fuel) for fuel in range(12)]
            for less, more in zip(range(11), range(1, 12)):
                if outcomes[less][0] != "fuel":
                    self.same((outcomes[more], trails[more]), (outcomes[less], trails[less]))
                self.same(outcomes[more][1][:len(outcomes[less][1])], outcomes[less][1])
                self.same(trails[more][:len(trails[less])], trails[less])

    def test_a_zero_more(self):
        for code, start in self.cases():
            names, cells = start
            full = (tuple(sorted({**dict.fromkeys(("i", "j", "p", "x", "y"), 0), **dict(names)}.items())),
                    tuple(sorted({**dict.fromkeys(cells_in(code), 0), **dict(cells)}.items())))
            self.assertTrue(is_start(code, full))
            for one, other in ((names, full[1]), (full[0], cells), full):
                self.same(run(code, (one, other), 30), run(code, start, 30))
                self.same(trail(code, (one, other), 30), trail(code, start, 30))

    def test_a_trail_is_a_free_way(self):
        for code, start in self.cases():
            for fuel in (0, 1, 2, 30):
                word, last = lets_way(code, trail(code, start, fuel))
                self.same(word == "ends", run(code, start, fuel)[0] == "ends")

    def test_what_each_cell_has_by_the_last_store(self):
        ended = 0
        for code, start in self.cases():
            outcome = run(code, start, 30)
            if outcome[0] != "ends":
                continue
            ended += 1
            has = {**dict.fromkeys(cells_in(code), 0), **dict(start[1])}
            names = dict(start[0])
            for place, choice in trail(code, start, 30):
                row = row_at(code, place)
                if row[0] == "store":
                    has[choice] = worth(row[2], tuple(sorted(names.items())))
                elif row[0] == "load":
                    names[row[1]] = has[choice]
                elif row[0] == "set":
                    one, other = [worth(operand, tuple(sorted(names.items()))) for operand in row[3:]]
                    names[row[1]] = {"+": one + other, "-": one - other, "*": one * other, "<": int(one < other)}[row[2]]
            self.same(outcome[2], tuple(sorted(has.items())))
        self.assertGreater(ended, 20)

    def test_cells_of_an_outcome_handed_in_again(self):
        for code, start in self.cases():
            outcome = run(code, start, 30)
            if outcome[0] == "ends":
                self.assertTrue(is_start(code, ((), outcome[2])))
                again = run(code, (start[0], outcome[2]), 30)
                self.assertIn(again[0], ("ends", "fault", "fuel"))
        code = of_rows(("load", "x", (("a",), 0, 0)), ("set", "x", "+", "x", 1), ("store", (("a",), 0, 0), "x"))
        cells = ()
        for times in (1, 2, 3):
            cells = run(code, ((), cells))[2]
            self.same(cells, cells_with(a0=times))


class TestOtherObjects(RunCase):
    def test_one_cell(self):
        code = ((("z", 1),), (("main", (block(("store", (("z",), 0, "i"), 4), BACK),)),))
        self.told(("ends", (), ((("z", 0), 4),)), code)
        self.told(("fault", ()), code, ((("i", 1),), ()))

    def test_the_sample(self):
        self.same(OBJECTS, CODE[0])
        self.told(("ends", (), cells_with(a1=-7, b0=4)), CODE, starting(("q", 0), ("w", 0), cells=((B0, 4),)))
        self.told(("fault", ()), CODE, starting(("q", 1)))


if __name__ == "__main__":
    unittest.main()
