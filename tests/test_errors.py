"""Tests of the refusals: point [4], and the interface under seatworth/errors.py."""

import inspect
import unittest

from seatworth import errors

OF_NO_THING = (
    "NoNumber", "NoSale", "NoNet", "NoClass", "NoTime", "NoLeft", "NoSingle", "NoPlan", "NoRun",
    "NoLimit", "NoShow", "NoAmends", "NoPrices", "NoLine", "NoText",
)
OF_NOT_NOW = ("Over", "Nothing")
BASES = {
    "SeatError": ValueError,
    "NoThing": errors.SeatError,
    "NotNow": errors.SeatError,
    **{name: errors.NoThing for name in OF_NO_THING},
    **{name: errors.NotNow for name in OF_NOT_NOW},
}


class Classes(unittest.TestCase):
    def test_each_class_stands_straight_under_its_own(self):
        for name, base in BASES.items():
            with self.subTest(name=name):
                self.assertEqual(getattr(errors, name).__bases__, (base,))

    def test_each_class_has_its_own_name(self):
        for name in BASES:
            with self.subTest(name=name):
                self.assertEqual(getattr(errors, name).__name__, name)
        self.assertEqual(len({getattr(errors, name) for name in BASES}), len(BASES))

    def test_there_is_no_other_class(self):
        there = {name for name, thing in vars(errors).items() if inspect.isclass(thing)}
        self.assertEqual(there, set(BASES))

    def test_none_stands_under_another_one(self):
        lower = OF_NO_THING + OF_NOT_NOW
        for name in lower:
            for other in lower:
                if name != other:
                    with self.subTest(name=name, other=other):
                        self.assertFalse(issubclass(getattr(errors, name), getattr(errors, other)))

    def test_the_families_are_apart(self):
        for name in OF_NO_THING:
            self.assertFalse(issubclass(getattr(errors, name), errors.NotNow), name)
        for name in OF_NOT_NOW:
            self.assertFalse(issubclass(getattr(errors, name), errors.NoThing), name)


class Making(unittest.TestCase):
    def test_each_but_no_text_is_made_with_a_text(self):
        for name in BASES:
            if name != "NoText":
                with self.subTest(name=name):
                    made = getattr(errors, name)("a text")
                    self.assertEqual(str(made), "a text")
                    self.assertEqual(made.args, ("a text",))

    def test_each_is_caught_as_its_family_and_as_value_error(self):
        for name, base in BASES.items():
            made = getattr(errors, name)(0 if name == "NoText" else "a text")
            for caught in (type(made), base, errors.SeatError, ValueError):
                with self.subTest(name=name, caught=caught.__name__):
                    with self.assertRaises(caught) as kept:
                        raise made
                    self.assertIs(kept.exception, made)

    def test_no_text_keeps_at(self):
        for at in (-1, 0, 1, 3, 7, 1000, 10 ** 30):
            with self.subTest(at=at):
                self.assertEqual(errors.NoText(at).at, at)
                self.assertEqual(errors.NoText(at=at).at, at)
                self.assertIs(type(errors.NoText(at).at), int)

    def test_each_no_text_keeps_its_own_at(self):
        one, other = errors.NoText(2), errors.NoText(5)
        self.assertEqual((one.at, other.at), (2, 5))

    def test_no_text_is_not_made_of_nothing(self):
        with self.assertRaises(TypeError):
            errors.NoText()

    def test_no_text_shows_where(self):
        self.assertIn("17", str(errors.NoText(17)))


if __name__ == "__main__":
    unittest.main()
