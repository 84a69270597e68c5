"""[7], [73]: CODE that is TURNED has the same OUTCOMES, from every START, by every FUEL."""

import random
import unittest

from storeways.carrying import carry
from storeways.codes import names_in, places_in, places_with
from storeways.errors import NoTurning
from storeways.faces import cells_in
from storeways.holding import hold_table
from storeways.leaving import leave
from storeways.rereading import reread
from storeways.running import run
from storeways.tables import table_of
from storeways.turnchecker import lets_chain, lets_turning
from tests.samples import BACK, Case, block, busy_code, code_of, said, some_code, sure_code

FUELS = (0, 1, 2, 3, 5, 9, 30)


def some_starts(code, chance, more_names=()):
    """STARTS of CODE, of the NAMES that TURNINGS put in, too, and of none."""
    names = sorted({*names_in(code), *more_names})
    yield None
    for _ in range(6):
        yield (tuple([(name, chance.choice((0, 1, 1, 2, -1, 9))) for name in names if chance.random() < 0.8]),
               tuple([(cell, chance.choice((0, 1, 2, -3))) for cell in cells_in(code) if chance.random() < 0.7]))


def turnings_of(code, shown):
    """All TURNINGS that are told of CODE."""
    found = []
    for place in places_in(code):
        for make, more in ((leave, (shown,)), (carry, ()), (reread, ())):
            try:
                found.append(make(code, place, *more))
            except NoTurning:
                pass
    return found


class OutcomeCase(Case):
    def same_outcomes(self, code, newer, shown, chance, more_names=()):
        """The same word and TRACE, and, where they end, the same numbers of the SHOWN CELLS."""
        for start in some_starts(code, chance, more_names):
            for fuel in FUELS:
                one, other = run(code, start, fuel), run(newer, start, fuel)
                self.same(other[:2], one[:2])
                if one[0] == "ends":
                    self.same([pair for pair in other[2] if pair[0] in shown], [pair for pair in one[2] if pair[0] in shown])


class TestOutcomes(OutcomeCase):
    def test_each_turning(self):
        many = {"left": 0, "carried": 0, "again": 0}
        codes = [sure_code(seed) for seed in range(120)] + [busy_code(seed) for seed in range(30)] + [some_code(seed) for seed in range(30)]
        for number, code in enumerate(codes):
            cells = cells_in(code)
            shown = (None, (), cells[:1], cells[1:])[number % 4]
            for turning in turnings_of(code, shown)[:6]:
                newer = lets_turning(code, shown, turning)
                # By "carried" and "again" all CELLS have the same, whatever is SHOWN.
                seen = cells if turning[0] != "left" or shown is None else shown
                self.same_outcomes(code, newer, seen, random.Random(number), (turning[2],) if turning[0] == "carried" else ())
                many[turning[0]] += 1
        self.assertTrue(min(many.values()) > 20, many)

    def test_several_behind_one_another(self):
        longest = 0
        for seed in range(60):
            chance = random.Random(seed)
            code = sure_code(seed)
            cells = cells_in(code)
            shown = chance.choice((None, (), cells[:1]))
            chain, newer, more_names = [], code, []
            while len(chain) < 6:
                turnings = turnings_of(newer, shown)
                if not turnings:
                    break
                chain.append(chance.choice(turnings))
                more_names.extend(chain[-1][2:3] if chain[-1][0] == "carried" else [])
                newer = lets_turning(newer, shown, chain[-1])
            self.same(lets_chain(code, shown, tuple(chain)), newer)
            self.same_outcomes(code, newer, cells if shown is None else shown, chance, more_names)
            longest = max(longest, len(chain))
        self.assertEqual(longest, 6)

    def test_whatever_is_let_by(self):
        # Each store to each read, each NAME, each "store" with the told tables: what isn't let by may be otherwise.
        let = refused = 0
        for seed in range(60):
            code = sure_code(seed)
            cells = cells_in(code)
            tables = {cell: table_of(code, cell) for cell in cells}
            things = [("carried", place, "new", store, tables[cell]) for place in places_with(code, "load") for store in places_with(code, "store") for cell in cells]
            things.extend([("again", place, name, hold_table(code, name, cell)) for place in places_with(code, "load") for name in names_in(code) for cell in cells[:1]])
            things.extend([("left", place, (tables[cell],)) for place in places_with(code, "store") for cell in cells])
            for thing in things:
                newer = said(lets_turning, code, cells[:1], thing)
                if isinstance(newer[0], str):
                    refused += 1
                else:
                    let += 1
                    self.same_outcomes(code, newer, cells[:1] if thing[0] == "left" else cells, random.Random(seed), ("new",))
        self.assertGreater(let, 60)
        self.assertGreater(refused, 60)


class TestFaults(OutcomeCase):
    def test_a_fault_is_kept(self):
        address = (("c",), "p", "i")
        code = code_of(block(("tell", 1), ("store", address, 5), ("tell", 2), ("store", address, 6), ("load", "x", address), ("tell", "x"), ("load", "y", address), BACK))
        for turning in turnings_of(code, None):
            newer = lets_turning(code, None, turning)
            for start, want in (((), ("ends", (1, 2, 6))), ((("i", 1),), ("fault", (1,))), ((("p", -1),), ("fault", (1,))), ((("p", 1),), ("fault", (1,)))):
                self.same(run(code, (start, ()))[:2], want)
                self.same(run(newer, (start, ()))[:2], want)
        self.same([turning[0] for turning in turnings_of(code, None)], ["left", "carried", "carried", "again"])

    def test_cells_that_are_not_shown_may_be_otherwise(self):
        code = code_of(block(("store", (("a",), 0, 0), 5), BACK))
        newer = lets_turning(code, (("a", 1),), leave(code, ("main", 0, 0), (("a", 1),)))
        self.assertNotEqual(run(code), run(newer))
        self.same_outcomes(code, newer, (("a", 1),), random.Random(1))


if __name__ == "__main__":
    unittest.main()
