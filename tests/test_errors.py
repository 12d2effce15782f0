"""The refusals, their values and what they stand under."""

import unittest

from nearlocks import errors
from nearlocks.errors import LockError, NoName, NoText

PLAIN = ("NoPlan", "NoBook", "NoScript", "NoBounds", "NotWaiting", "Uneven", "NoStep", "TooMany", "Endless",
         "NoLine", "NoHouse")
ALL = PLAIN + ("NoName", "NoText")


def made(name):
    known = getattr(errors, name)
    return known() if name in PLAIN else known("x")


class ErrorTests(unittest.TestCase):
    def test_lock_error_stands_straight_under_value_error(self):
        self.assertEqual(LockError.__bases__, (ValueError,))

    def test_each_stands_straight_under_lock_error(self):
        for name in ALL:
            with self.subTest(name=name):
                self.assertEqual(getattr(errors, name).__bases__, (LockError,))

    def test_none_stands_under_another_one(self):
        for name in ALL:
            for other in ALL:
                if name != other:
                    with self.subTest(name=name, other=other):
                        self.assertNotIsInstance(made(name), getattr(errors, other))

    def test_each_is_raised_and_caught_by_its_name(self):
        for name in ALL:
            with self.subTest(name=name):
                for caught in (getattr(errors, name), LockError, ValueError):
                    with self.assertRaises(caught):
                        raise made(name)

    def test_the_values(self):
        for worth in ("ann", "", None, 0, -1, True, (), ("a", ("b",)), [1], {"a": []}):
            with self.subTest(worth=worth):
                self.assertIs(NoName(worth).name, worth)
                self.assertIs(NoText(worth).row, worth)
        self.assertEqual(NoName(name="ann").name, "ann")
        self.assertEqual(NoText(row=3).row, 3)

    def test_there_are_no_others(self):
        found = [name for name in vars(errors) if isinstance(vars(errors)[name], type)]
        self.assertEqual(sorted(found), sorted(ALL + ("LockError",)))


if __name__ == "__main__":
    unittest.main()
