"""[9] and the interface's row of errors."""

import unittest

from storeways import errors

WAY = {"NoPaper": ("word", "at"), "NoCode": ("word",), "NoTurning": ("word",), "NoText": ("line", "word"),
       "NoLine": ("row",)}
LOST = {"NoPlace": ("place",), "NoRoutine": ("name",), "NoBack": ("times",)}
ALL = {**WAY, **LOST}


class Shy:
    """A thing that can't be looked at."""

    def away(self, *things):
        raise AssertionError("it was looked at")

    __eq__ = __hash__ = __bool__ = __len__ = __iter__ = __str__ = __repr__ = __copy__ = __deepcopy__ = away


class TestFamilies(unittest.TestCase):
    def test_bases_of_the_families(self):
        self.assertEqual(errors.WayError.__bases__, (ValueError,))
        self.assertEqual(errors.LostError.__bases__, (LookupError,))

    def test_each_refusal_stands_straight_under_its_family(self):
        for name in WAY:
            self.assertEqual(getattr(errors, name).__bases__, (errors.WayError,))
        for name in LOST:
            self.assertEqual(getattr(errors, name).__bases__, (errors.LostError,))

    def test_each_refusal_is_under_one_family_alone(self):
        for name in WAY:
            self.assertFalse(issubclass(getattr(errors, name), LookupError), name)
        for name in LOST:
            self.assertFalse(issubclass(getattr(errors, name), ValueError), name)

    def test_refusals_are_not_under_one_another(self):
        for name in ALL:
            for other in ALL:
                if other != name:
                    self.assertFalse(issubclass(getattr(errors, name), getattr(errors, other)), (name, other))

    def test_all_are_defined_there(self):
        for name in (*ALL, "WayError", "LostError"):
            self.assertEqual(getattr(errors, name).__module__, "storeways.errors")
            self.assertEqual(getattr(errors, name).__name__, name)


class TestFields(unittest.TestCase):
    def made(self, name, things):
        """The refusal made by place, and the one made by name."""
        refusal = getattr(errors, name)
        return refusal(*things), refusal(**dict(zip(ALL[name], things)))

    def test_fields_are_the_very_things(self):
        for name in ALL:
            things = [["a", (1, [])] for field in ALL[name]]
            for refusal in self.made(name, things):
                for field, thing in zip(ALL[name], things):
                    self.assertIs(getattr(refusal, field), thing)

    def test_a_list_that_grows_afterwards_is_kept(self):
        for name in ALL:
            things = [[k] for k in range(len(ALL[name]))]
            for refusal in self.made(name, things):
                for thing in things:
                    thing.append("more")
                for field, thing in zip(ALL[name], things):
                    self.assertIs(getattr(refusal, field), thing)
                    self.assertEqual(getattr(refusal, field)[-1], "more")

    def test_plain_things_of_every_kind(self):
        for thing in (None, True, False, 0, -1, 10 ** 200, "", "word", (), [], ((),), [[1]]):
            for name in ALL:
                for refusal in self.made(name, [thing] * len(ALL[name])):
                    for field in ALL[name]:
                        self.assertIs(getattr(refusal, field), thing)

    def test_things_are_looked_at_in_no_way(self):
        for name in ALL:
            things = [Shy() for field in ALL[name]]
            for refusal in self.made(name, things):
                for field, thing in zip(ALL[name], things):
                    self.assertIs(getattr(refusal, field), thing)

    def test_fields_of_two_are_in_their_order(self):
        paper = errors.NoPaper("flow", 3)
        self.assertEqual((paper.word, paper.at), ("flow", 3))
        paper = errors.NoPaper(at=-1, word="shape")
        self.assertEqual((paper.word, paper.at), ("shape", -1))
        text = errors.NoText(4, 2)
        self.assertEqual((text.line, text.word), (4, 2))

    def test_each_is_made_of_just_its_fields(self):
        for name in ALL:
            refusal = getattr(errors, name)
            things = [1] * len(ALL[name])
            self.assertEqual(sorted(vars(refusal(*things))), sorted(ALL[name]))
            self.assertRaises(TypeError, refusal, *things[1:])
            self.assertRaises(TypeError, refusal, *things, 1)

    def test_two_of_a_kind_keep_their_own(self):
        one, other = errors.NoBack(1), errors.NoBack(2)
        self.assertEqual((one.times, other.times), (1, 2))

    def test_it_is_caught_by_its_family(self):
        for name in ALL:
            family = errors.WayError if name in WAY else errors.LostError
            with self.assertRaises(family):
                raise getattr(errors, name)(*[1] * len(ALL[name]))


if __name__ == "__main__":
    unittest.main()
