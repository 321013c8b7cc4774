"""Points [0.2] and the interface of lawsleft/errors.py."""

import unittest

from lawsleft import errors

NAMES = (
    "BadGround", "BadProgram", "TooMany", "BadPuts", "BadBook", "BadLaw", "TooGreat", "Unlike", "NotOne", "BadState",
    "BadCount", "BadRow", "BadStep", "BadCode", "BadOutcomes", "BadText", "Twice", "BadNumber", "NoName", "TooDeep",
    "BadName", "NoLaw", "NoProgram", "NothingToUndo", "NothingToRedo",
)


class Errors(unittest.TestCase):
    def test_refused_stands_under_value_error(self):
        self.assertEqual(errors.Refused.__bases__, (ValueError,))
        self.assertEqual(errors.Refused("why").what, "why")

    def test_each_other_one_stands_under_refused_alone(self):
        for name in NAMES:
            with self.subTest(name):
                self.assertEqual(getattr(errors, name).__bases__, (errors.Refused,))

    def test_each_is_made_from_one_argument_that_it_keeps(self):
        for name in ("Refused",) + NAMES:
            made = getattr(errors, name)
            for what in (-1, (0, 3), "name", None, ()):
                with self.subTest(name, what=what):
                    self.assertEqual(made(what).what, what)
                    self.assertEqual(made(what=what).what, what)
            self.assertRaises(TypeError, made)
            self.assertRaises(TypeError, made, 1, 2)

    def test_they_are_caught_as_refused_and_as_value_error_but_not_as_each_other(self):
        with self.assertRaises(errors.Refused):
            raise errors.BadState(0)
        with self.assertRaises(ValueError):
            raise errors.BadStep(0)
        for one in NAMES:
            for two in NAMES:
                under = issubclass(getattr(errors, one), getattr(errors, two))
                self.assertEqual(under, one == two)

    def test_nothing_else_is_an_error_there(self):
        found = [name for name, made in vars(errors).items() if isinstance(made, type)]
        self.assertEqual(sorted(found), sorted(NAMES + ("Refused",)))


if __name__ == "__main__":
    unittest.main()
