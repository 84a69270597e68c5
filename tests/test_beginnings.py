"""[43]: what may stand in a CELL where a routine is entered."""

import unittest

from storeways.beginnings import begins
from storeways.codes import routines_of
from storeways.errors import NoRoutine
from storeways.faces import cells_in
from storeways.freeing import met_places
from tests.samples import (
    ANY_A, BACK, CELL, CODE, LEAF, LEAST, STRANGE, Case, block, busy_code, call, code_of, some_code, store,
)
from tests.tried import in_order, tried_begins


class TestBegins(Case):
    def told(self, code, want, name="sub", cell=CELL):
        self.same(self.untouched(begins, code, name, cell), want)

    def test_main(self):
        self.told(LEAST, (None,), "main")
        self.told(code_of(block(store(), ("go", 0))), (None,), "main")
        self.told(CODE, (None,), "main", ("b", 1))

    def test_called_at_one_place(self):
        self.told(code_of(block(call(), BACK), sub=LEAF), (None,))
        self.told(code_of(block(store(), call(), BACK), sub=LEAF), (("main", 0, 0),))
        self.told(code_of(block(store(ANY_A), call(), BACK), sub=LEAF), (None, ("main", 0, 0)))
        self.told(code_of(block(store(ANY_A), call(), BACK), sub=LEAF), (None,), cell=("b", 0))
        self.told(code_of(block(call(), store(), BACK), sub=LEAF), (None,))

    def test_called_at_several(self):
        code = code_of(block(("if", "x", 1, 2)), block(store(), call(), BACK), block(store(), call(), BACK), sub=LEAF)
        self.told(code, (("main", 1, 0), ("main", 2, 0)))
        self.told(code_of(block(call(), store(), call(), BACK), sub=LEAF), (None, ("main", 0, 1)))

    def test_what_it_stores_itself(self):
        sub = (block(store(), BACK),)
        self.told(code_of(block(call(), BACK), sub=sub), (None,))
        self.told(code_of(block(call(), call(), BACK), sub=sub), (None, ("sub", 0, 0)))
        self.told(code_of(block(call(), ("go", 0)), sub=sub), (None, ("sub", 0, 0)))

    def test_within_other_routines(self):
        code = code_of(block(store(), call("zub"), BACK), sub=LEAF, zub=(block(call(), store(ANY_A), call(), BACK),))
        self.told(code, (("main", 0, 0), ("zub", 0, 1)))
        self.told(code, (("main", 0, 0),), "zub")
        code = code_of(block(call("aub"), BACK), aub=(block(call(), BACK),), sub=(block(call("zub"), BACK),), zub=LEAF)
        self.told(code, (None,), "zub")

    def test_from_several_routines(self):
        code = code_of(block(store(), call("aub"), store(), call("zub"), BACK), aub=(block(call(), BACK),), sub=LEAF,
                       zub=(block(store(), call(), BACK),))
        self.told(code, (("main", 0, 0), ("zub", 0, 0)))

    def test_by_itself_and_by_one_another(self):
        sub = (block(("if", "x", 1, 2)), block(store(), call(), BACK), block(BACK))
        self.told(code_of(block(call(), BACK), sub=sub), (None, ("sub", 1, 0)))
        sub = (block(store(ANY_A), call("zub"), BACK),)
        zub = (block(store(ANY_A), call("sub"), BACK),)
        code = code_of(block(call(), BACK), sub=sub, zub=zub)
        self.told(code, (None, ("sub", 0, 0), ("zub", 0, 0)))
        self.told(code, (None, ("sub", 0, 0), ("zub", 0, 0)), "zub")

    def test_none_ahead_of_all_and_places_rising(self):
        rows = []
        for _ in range(12):
            rows.extend([store(ANY_A), call()])
        self.told(code_of(block(*rows, BACK), aub=LEAF, sub=LEAF), (None, *[("main", 0, row) for row in range(0, 24, 2)]))
        code = code_of(block(store(ANY_A), call("aub"), store(ANY_A), call(), BACK), aub=(block(store(ANY_A), BACK),), sub=LEAF)
        self.told(code, (None, ("aub", 0, 0), ("main", 0, 0), ("main", 0, 2)))

    def test_one_that_no_way_enters(self):
        self.told(code_of(block(BACK), sub=LEAF), ())
        self.told(code_of(block(BACK), sub=(block(store(), call(), BACK),)), ())
        self.told(code_of(block(BACK), sub=LEAF, zub=(block(store(), call(), BACK),)), ())
        self.told(code_of(block(BACK), block(call(), BACK), sub=LEAF), ())

    def test_a_call_that_is_not_met(self):
        code = code_of(block(call("zub"), store(), call(), BACK), sub=LEAF, zub=(block(("go", 0)),))
        self.told(code, ())
        code = code_of(block(call(), call("zub"), store(), call(), BACK), sub=LEAF, zub=(block(("go", 0)),))
        self.told(code, (None,))
        # sub is entered, though it never comes back.
        self.told(code_of(block(store(), call(), store(), call(), BACK), sub=(block(("go", 0)),)), (("main", 0, 0),))

    def test_a_call_of_what_is_not_entered_adds_nothing(self):
        code = code_of(block(call(), BACK), sub=LEAF, zub=(block(store(), call(), BACK),))
        self.told(code, (None,))

    def test_against_all_that_can_be_tried(self):
        codes = [some_code(seed) for seed in range(80)] + [busy_code(seed) for seed in range(150)]
        for number, code in enumerate(codes):
            cell = cells_in(code)[number % len(cells_in(code))]
            met = met_places(code)
            for name in routines_of(code):
                told = begins(code, name, cell)
                self.same(told, in_order(tried_begins(code, name, cell)))
                self.assertEqual(told != (), (name, 0, 0) in met)

    def test_refused(self):
        for thing in (*STRANGE, "none", "a", ("main",), ["main"], 0, ("main", 0, 0), ["sub", True]):
            self.refused(NoRoutine, {"name": thing}, begins, CODE, thing, CELL)
            self.refused(NoRoutine, {"name": thing}, begins, cell=CELL, name=thing, code=CODE)

    def test_by_name(self):
        self.same(begins(cell=CELL, name="sub", code=code_of(block(store(), call(), BACK), sub=LEAF)), (("main", 0, 0),))


if __name__ == "__main__":
    unittest.main()
