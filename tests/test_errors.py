"""The classes of refusals."""

import unittest

from jumpsay import errors

NAMES = ["BadCondition", "BadWorths", "BadTurns", "BadEnd", "BadCode", "BadChances", "TooMany", "BadText"]
PLACED = ["BadCode", "BadText"]


def made(name):
    kind = getattr(errors, name)
    return kind(3) if name in PLACED else kind("why")


class Errors(unittest.TestCase):
    def test_jump_error_is_a_value_error(self):
        self.assertEqual(errors.JumpError.__bases__, (ValueError,))

    def test_each_stands_directly_under_jump_error(self):
        for name in NAMES:
            with self.subTest(name=name):
                self.assertEqual(getattr(errors, name).__bases__, (errors.JumpError,))
                self.assertEqual(getattr(errors, name).__module__, "jumpsay.errors")

    def test_each_is_raised_as_itself_and_none_of_the_others(self):
        for name in NAMES:
            for other in NAMES:
                with self.subTest(name=name, other=other):
                    self.assertEqual(isinstance(made(name), getattr(errors, other)), name == other)
            self.assertIsInstance(made(name), errors.JumpError)
            self.assertIsInstance(made(name), ValueError)

    def test_each_can_be_caught_as_any_refusal(self):
        for name in NAMES:
            with self.subTest(name=name), self.assertRaises(errors.JumpError):
                raise made(name)

    def test_place(self):
        for name in PLACED:
            kind = getattr(errors, name)
            for place in (0, 3, 40, 200):
                with self.subTest(name=name, place=place):
                    self.assertEqual(kind(place).place, place)
                    self.assertIsInstance(str(kind(place)), str)

    def test_places_are_each_their_own(self):
        one, other = errors.BadCode(1), errors.BadCode(2)
        self.assertEqual((one.place, other.place), (1, 2))


if __name__ == "__main__":
    unittest.main()
