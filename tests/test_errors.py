"""The interface: hallback/errors.py."""

import unittest

from hallback import errors

NAMES = (
    "NoHall", "NoBook", "NoLooks", "NoRank", "NoComings", "NoComer", "NoTick", "NoNumber", "NotAlike", "NoRow",
    "CantBe", "NothingLeft",
)


class Errors(unittest.TestCase):
    def test_hall_error_is_straight_under_value_error(self):
        self.assertEqual(errors.HallError.__bases__, (ValueError,))

    def test_each_refusal_is_straight_under_hall_error(self):
        for name in NAMES:
            with self.subTest(name=name):
                self.assertEqual(getattr(errors, name).__bases__, (errors.HallError,))

    def test_each_is_made_of_a_text(self):
        for name in ("HallError",) + NAMES:
            with self.subTest(name=name):
                self.assertEqual(str(getattr(errors, name)("a text")), "a text")

    def test_each_has_its_own_name_and_file(self):
        for name in ("HallError",) + NAMES:
            with self.subTest(name=name):
                self.assertEqual(getattr(errors, name).__name__, name)
                self.assertEqual(getattr(errors, name).__module__, "hallback.errors")


if __name__ == "__main__":
    unittest.main()
