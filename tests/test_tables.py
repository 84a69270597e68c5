"""[47], [49]: the least TABLE of a CELL."""

import unittest

from storeways.beginnings import begins
from storeways.codes import places_in, routines_of
from storeways.faces import cells_in
from storeways.passing import made_at
from storeways.tables import table_of
from tests.samples import BACK, CELL, CODE, LEAST, PERHAPS, STORE, Case, block, busy_code, code_of, some_code


class TestTables(Case):
    def test_the_least_code(self):
        self.same(self.untouched(table_of, LEAST, CELL), (((("main", 0, 0), (), True),), (("main", (None,)),)))

    def test_calls(self):
        code = code_of(block(PERHAPS, ("call", "sub"), BACK), sub=(block(STORE, BACK),))
        first, inner = ("main", 0, 0), ("sub", 0, 0)
        points = ((first, (), True), (("main", 0, 1), (first,), True), (("main", 0, 2), (inner,), False),
                  (inner, (), True), (("sub", 0, 1), (inner,), False))
        self.same(self.untouched(table_of, code, CELL), (points, (("main", (None,)), ("sub", (None, first)))))
        points = tuple([(place, (first,) if place[2] > 0 and place[0] == "main" else (), True) for place in places_in(code)])
        self.same(table_of(code, ("a", 1)), (points, (("main", (None,)), ("sub", (None, first)))))

    def test_places_that_are_not_come_to(self):
        code = code_of(block(("call", "sub"), STORE, BACK), block(STORE, BACK), aub=(block(STORE, BACK),), sub=(block(("go", 0)),))
        points = ((("aub", 0, 0), (), True), (("aub", 0, 1), (("aub", 0, 0),), False),
                  (("main", 0, 0), (), True), (("main", 0, 1), (), False), (("main", 0, 2), (), False),
                  (("main", 1, 0), (), False), (("main", 1, 1), (), False), (("sub", 0, 0), (), True))
        self.same(table_of(code, CELL), (points, (("aub", ()), ("main", (None,)), ("sub", (None,)))))

    def test_it_has_what_is_told_place_by_place(self):
        for code in [LEAST, CODE] + [busy_code(seed) for seed in range(40)] + [some_code(seed) for seed in range(20)]:
            for cell in cells_in(code)[::2]:
                points, begun = self.untouched(table_of, code, cell)
                self.same(points, tuple([(place, *made_at(code, place, cell)) for place in places_in(code)]))
                self.same(begun, tuple([(name, begins(code, name, cell)) for name in routines_of(code)]))

    def test_other_rows_exchanged_turn_nothing(self):
        tables = [table_of(code_of(block(row, PERHAPS, ("call", "sub"), row, BACK), sub=(block(row, STORE, BACK),)), CELL)
                  for row in (("tell", "x"), ("need", 0), ("set", "y", "*", 2, 2), ("touch", PERHAPS[1]))]
        for table in tables:
            self.same(table, tables[0])

    def test_by_name(self):
        self.same(table_of(cell=("b", 0), code=CODE), table_of(CODE, ("b", 0)))


if __name__ == "__main__":
    unittest.main()
