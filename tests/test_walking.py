"""[58] to [60]: SOURCES reckoned by VERSIONS, and that both ways tell the same."""

import unittest

from storeways.codes import places_in, row_at
from storeways.errors import NoPlace
from storeways.faces import cells_in, face
from storeways.freeing import met_places
from storeways.passing import made_at
from storeways.sources import sources
from storeways.walking import walked, walked_sources
from tests.samples import (
    A1, ANY_A, BACK, CELL, CODE, LEAF, LEAST, LOAD, NEVER, STRANGE, Case, block, busy_code, call, code_of, some_code,
    store,
)
from tests.tried import apart, in_order, tried, tried_within

READER = (block(LOAD, BACK),)
PASSES = ((), True)


def at(number, row, name="main"):
    return (name, number, row)


def loads(code):
    return [place for place in places_in(code) if row_at(code, place)[0] == "load"]


class TestWalked(Case):
    def told(self, code, *cases, cell=CELL):
        """Each case is (PLACE, what is told of it); made_at tells the same."""
        for place, want in cases:
            with self.subTest(place=place):
                self.same(self.untouched(walked, code, place, cell), want)
                self.same(made_at(code, place, cell), want)

    def test_rows(self):
        self.told(LEAST, (at(0, 0), PASSES))
        code = code_of(block(LOAD, store(), store(A1), store(ANY_A), store(), BACK))
        self.told(code, (at(0, 0), PASSES), (at(0, 1), PASSES), (at(0, 2), ((at(0, 1),), False)), (at(0, 3), ((at(0, 1),), False)),
                  (at(0, 4), ((at(0, 1), at(0, 3)), False)), (at(0, 5), ((at(0, 4),), False)))
        self.told(code, (at(0, 2), PASSES), (at(0, 3), ((at(0, 2),), False)), (at(0, 5), ((at(0, 2), at(0, 3)), False)), cell=("a", 1))
        self.told(code, (at(0, 5), ((at(0, 3),), True)), cell=("a", 2))
        self.told(code, (at(0, 5), PASSES), cell=("b", 0))

    def test_sure_by_names_and_of_one_of_several_objects(self):
        code = code_of(block(store((("c",), "p", "i")), store((("b", "a"), 1, 0)), BACK))
        self.told(code, (at(0, 2), ((at(0, 0),), False)), cell=("c", 0))
        self.told(code, (at(0, 2), ((at(0, 1),), False)))

    def test_branches(self):
        code = code_of(block(store(), ("if", "x", 1, 2)), block(store(), ("go", 3)), block(store(ANY_A), ("go", 3)), block(BACK))
        self.told(code, (at(3, 0), ((at(0, 0), at(1, 0), at(2, 0)), False)))
        code = code_of(block(("if", "x", 1, 2)), block(store(), ("go", 3)), block(("go", 3)), block(BACK))
        self.told(code, (at(3, 0), ((at(1, 0),), True)))

    def test_loops(self):
        code = code_of(block(LOAD, store(), ("if", "x", 0, 1)), block(BACK))
        self.told(code, (at(0, 0), ((at(0, 1),), True)), (at(1, 0), ((at(0, 1),), False)))
        code = code_of(block(("go", 1)), block(store(ANY_A), ("if", "x", 1, 2)), block(("if", "x", 1, 2)))
        self.told(code, (at(1, 0), ((at(1, 0),), True)), (at(2, 0), ((at(1, 0),), True)))

    def test_calls(self):
        sub = (block(("if", "x", 1, 2)), block(store(), BACK), block(BACK))
        self.told(code_of(block(store(), call(), BACK), sub=sub), (at(0, 2), ((at(0, 0), at(1, 0, "sub")), False)))
        self.told(code_of(block(store(), call(), BACK), sub=(block(store(), BACK),)), (at(0, 2), ((at(0, 0, "sub"),), False)))
        self.told(code_of(block(store(), call(), BACK), sub=LEAF), (at(0, 2), ((at(0, 0),), False)))
        self.told(code_of(block(call(), call(), BACK), sub=LEAF), (at(0, 2), PASSES))

    def test_calls_in_a_ring(self):
        sub = (block(("if", "x", 1, 2)), block(call("zub"), store(ANY_A), BACK), block(BACK))
        zub = (block(("if", "x", 1, 2)), block(call("sub"), store(), BACK), block(call("sub"), BACK))
        code = code_of(block(store(), call("sub"), call("zub"), BACK), sub=sub, zub=zub)
        inner = (at(1, 1, "sub"), at(1, 1, "zub"))
        self.told(code, (at(0, 2), ((at(0, 0), *inner), False)), (at(0, 3), ((at(0, 0), *inner), False)), (at(2, 1, "zub"), (inner, True)))

    def test_a_beginning_that_is_come_to_only_later(self):
        # aub comes to its BEGINNING only by zub, which is reckoned behind it.
        aub = (block(("if", "x", 1, 2)), block(call("zub"), BACK), block(store(), BACK))
        zub = (block(("if", "x", 1, 2)), block(call("aub"), BACK), block(BACK))
        code = code_of(block(store(), call("aub"), BACK), aub=aub, zub=zub)
        self.told(code, (at(0, 2), ((at(2, 0, "aub"), at(0, 0)), False)))
        aub = (block(call("bub"), BACK),)
        bub = (block(call("zub"), BACK),)
        self.told(code_of(block(store(), call("aub"), BACK), aub=aub, bub=bub, zub=LEAF), (at(0, 2), ((at(0, 0),), False)))

    def test_ones_that_never_come_back(self):
        code = code_of(block(("if", "x", 1, 2)), block(store(), call(), store(ANY_A), ("go", 2)), block(BACK), sub=NEVER)
        self.told(code, (at(2, 0), PASSES), (at(1, 1), ((at(1, 0),), False)))
        # Some "back" of sub isn't MET.
        sub = (block(("if", "x", 1, 2)), block(call("zub"), store(), BACK), block(BACK))
        self.told(code_of(block(call(), BACK), sub=sub, zub=NEVER), (at(0, 1), PASSES))

    def test_a_store_or_call_that_is_not_met_in_a_reached_block(self):
        code = code_of(block(("if", "x", 1, 2)), block(call("zub"), store(ANY_A), call(), ("go", 2)), block(LOAD, BACK),
                       sub=(block(store(), BACK),), zub=NEVER)
        self.told(code, (at(2, 0), PASSES))
        self.same(walked_sources(code, at(2, 0)), (None,))
        # A "store" of the CELL alone that isn't MET gives nothing, nor does a "call" that isn't MET of one that is.
        code = code_of(block(call(), ("if", "x", 1, 2)), block(call("zub"), call(), ("go", 2)), block(LOAD, BACK),
                       sub=(block(store(ANY_A), BACK),), zub=(block(("go", 1)), block(store(), ("go", 0))))
        self.told(code, (at(2, 0), ((at(0, 0, "sub"),), True)))
        code = code_of(block(("if", "x", 1, 2)), block(call("zub"), store(), ("go", 2)), block(LOAD, BACK), zub=NEVER)
        self.told(code, (at(2, 0), PASSES))

    def test_like_made_at(self):
        codes = [CODE] + [some_code(seed) for seed in range(50)] + [busy_code(seed) for seed in range(100)]
        for number, code in enumerate(codes):
            cell = cells_in(code)[number % len(cells_in(code))]
            for place in met_places(code):
                self.same(walked(code, place, cell), made_at(code, place, cell))

    def test_like_all_that_can_be_tried(self):
        for seed in range(200, 260):
            code = busy_code(seed)
            for place in met_places(code):
                self.same(walked(code, place, CELL), apart(tried_within(code, place[0], CELL)[place]))

    def test_refused(self):
        code = code_of(block(call(), store(), BACK), block(LOAD, BACK), aub=LEAF, sub=NEVER)
        wrong = (at(0, 1), at(0, 2), at(1, 0), at(1, 1), at(0, 0, "aub"), at(0, 1, "sub"), at(0, 3), at(0, False), at(False, 0), at(2, 0),
                 at(-1, 0), at(0, 0, "none"), ["main", 0, 0], ("main", [0], 0), ("main", 0), 0, "main", ("begin",))
        for thing in (*STRANGE, *wrong):
            self.refused(NoPlace, {"place": thing}, walked, code, thing, CELL)
            self.refused(NoPlace, {"place": thing}, walked, cell=CELL, place=thing, code=code)

    def test_by_name(self):
        code = code_of(block(store(), BACK))
        self.same(walked(cell=CELL, place=at(0, 1), code=code), ((at(0, 0),), False))


class TestWalkedSources(Case):
    def told(self, code, want, place=None, cell=CELL):
        """Of the first "load", where no PLACE is handed in; sources tells the same."""
        self.same(self.untouched(walked_sources, code, place or loads(code)[0], cell), want)
        self.same(sources(code, place or loads(code)[0], cell), want)

    def test_in_main(self):
        self.told(code_of(block(LOAD, BACK)), (None,))
        self.told(code_of(block(store(), LOAD, BACK)), (at(0, 0),))
        self.told(code_of(block(store(ANY_A), LOAD, BACK)), (None, at(0, 0)))
        self.told(code_of(block(LOAD, store(), ("if", "x", 0, 1)), block(BACK)), (None, at(0, 1)))

    def test_through_beginnings(self):
        self.told(code_of(block(call(), BACK), sub=READER), (None,))
        self.told(code_of(block(store(), call(), BACK), sub=READER), (at(0, 0),))
        self.told(code_of(block(store(ANY_A), call("zub"), BACK), sub=READER, zub=(block(store(ANY_A), call(), BACK),)),
                  (None, at(0, 0), at(0, 0, "zub")))
        self.told(code_of(block(call(), store(), call(), BACK), sub=READER), (None, at(0, 1)))
        # sub's BEGINNING stands behind its own "store" at the second "call" of it.
        self.told(code_of(block(call(), call(), BACK), sub=(block(LOAD, store(), BACK),)), (None, at(0, 1, "sub")))

    def test_only_calls_that_are_met(self):
        zub = (block(store(), call(), BACK),)
        self.told(code_of(block(call(), BACK), sub=READER, zub=zub), (None,))
        code = code_of(block(store(), call(), call("zub"), store(), call(), BACK), sub=READER, zub=NEVER)
        self.told(code, (at(0, 0),))

    def test_a_ring(self):
        sub = (block(("if", "x", 1, 2)), block(store(), call("zub"), BACK), block(LOAD, BACK))
        zub = (block(("if", "x", 1, 2)), block(store(), call("sub"), BACK), block(call("sub"), BACK))
        code = code_of(block(call(), LOAD, BACK), sub=sub, zub=zub)
        self.told(code, (None, at(1, 0, "sub"), at(1, 0, "zub")), at(2, 0, "sub"))
        self.told(code, (None, at(1, 0, "sub"), at(1, 0, "zub")), at(0, 1))

    def test_of_all_cells_of_the_face_together(self):
        code = code_of(block(store(), store(A1), ("load", "x", ANY_A), BACK))
        self.told(code, (None, at(0, 0), at(0, 1)), cell=None)
        self.same(walked_sources(code, at(0, 2)), (None, at(0, 0), at(0, 1)))
        self.told(code, (at(0, 1),), cell=("a", 1))
        self.told(code, (None,), cell=("a", 2))

    def test_none_where_it_is_not_met_or_the_cell_is_not_there(self):
        code = code_of(block(store(), LOAD, BACK))
        for cell in (("a", 1), ("b", 0), ("c", 0)):
            self.told(code, (), cell=cell)
        for cell in (CELL, None, ("b", 0)):
            self.told(code_of(block(BACK), block(store(), LOAD, BACK)), (), cell=cell)
            self.told(code_of(block(BACK), sub=READER), (), cell=cell)
            self.told(code_of(block(call(), LOAD, BACK), sub=NEVER), (), cell=cell)

    def test_like_sources(self):
        codes = [CODE] + [some_code(seed) for seed in range(40)] + [busy_code(seed) for seed in range(100)]
        for code in codes:
            for place in loads(code):
                self.same(walked_sources(code, place), sources(code, place))
                for cell in cells_in(code)[::2]:
                    self.same(walked_sources(code, place, cell), sources(code, place, cell))

    def test_like_all_that_can_be_tried(self):
        for seed in range(200, 280):
            code = busy_code(seed)
            found = tried(code, CELL)
            for place in loads(code):
                inside = CELL in face(code, row_at(code, place)[2])
                self.same(walked_sources(code, place, CELL), in_order(found.get(place, set())) if inside else ())

    def test_refused(self):
        code = code_of(block(LOAD, store(), ("tell", 1), call(), BACK), block(store(), BACK), sub=LEAF)
        wrong = (at(0, 1), at(0, 2), at(0, 3), at(0, 4), at(1, 0), at(0, 0, "sub"), at(0, 5), at(0, False), at(False, 0), at(0, 0, "none"),
                 ["main", 0, 0], ("main", [0], 0), ("main", 0), 0, "main")
        for thing in (*STRANGE, *wrong):
            for cell in (None, CELL, ("b", 1)):
                self.refused(NoPlace, {"place": thing}, walked_sources, code, thing, cell)
            self.refused(NoPlace, {"place": thing}, walked_sources, place=thing, code=code)

    def test_by_name(self):
        code = code_of(block(store(), ("load", "x", ANY_A), BACK))
        self.same(walked_sources(cell=CELL, place=at(0, 1), code=code), (at(0, 0),))
        self.same(walked_sources(place=at(0, 1), code=code), (None, at(0, 0)))
        self.same(walked_sources(place=at(0, 1), code=code, cell=None), (None, at(0, 0)))


if __name__ == "__main__":
    unittest.main()
