"""The classes of alarmline/errors.py, as the interface lists them."""

import unittest

from alarmline import errors

NAMES = (
    "BadDeeds", "BadCauses", "BadLog", "BadDesk", "BadRota", "BadAlarm",
    "BadLevel", "BadBeat", "BadPerson", "Full", "BadText",
)
WITH_VALUE = {"BadDeeds": "at", "BadCauses": "at", "BadLog": "at", "BadText": "line"}


def made(name):
    kind = getattr(errors, name)
    return kind(7) if name in WITH_VALUE else kind()


class Errors(unittest.TestCase):
    def test_line_error_is_a_value_error(self):
        self.assertEqual(errors.LineError.__bases__, (ValueError,))

    def test_each_stands_right_below_line_error(self):
        for name in NAMES:
            with self.subTest(name):
                self.assertEqual(getattr(errors, name).__bases__, (errors.LineError,))

    def test_each_is_caught_as_line_error_and_value_error(self):
        for name in NAMES:
            for base in (errors.LineError, ValueError):
                with self.subTest(name, base=base), self.assertRaises(base):
                    raise made(name)

    def test_the_values_are_set_when_created(self):
        for name, value in WITH_VALUE.items():
            with self.subTest(name):
                self.assertEqual(getattr(made(name), value), 7)

    def test_at_and_line_may_be_0(self):
        self.assertEqual(errors.BadDeeds(0).at, 0)
        self.assertEqual(errors.BadText(0).line, 0)

    def test_each_has_a_message(self):
        for name in WITH_VALUE:
            with self.subTest(name):
                self.assertIn("7", str(made(name)))


if __name__ == "__main__":
    unittest.main()
