"""Promise [2]: what a deed is, and the refusal BadDeeds with `at`."""

import unittest

from alarmline import errors
from alarmline.boards import board_of
from alarmline.errors import BadDeeds, LineError

GOOD = ((1, 0), ("raise", 0, 1))

# A deed with a hole for the number in question, and both ends of its range.
RANGES = (
    ("alarm of raise", lambda n: ((2, 0), ("raise", n, 1)), 0, 29),
    ("alarm of clear", lambda n: ((2, 0), ("clear", n)), 0, 29),
    ("alarm of hush", lambda n: ((2, 0), ("hush", n, 5)), 0, 29),
    ("alarm of take", lambda n: ((2, 0), ("take", n, 5)), 0, 29),
    ("alarm of back", lambda n: ((2, 0), ("back", n, 5)), 0, 29),
    ("level", lambda n: ((2, 0), ("raise", 3, n)), 1, 5),
    ("beat", lambda n: ((2, 0), ("hush", 3, n)), 0, 999),
    ("person of take", lambda n: ((2, 0), ("take", 3, n)), 0, 9),
    ("person of back", lambda n: ((2, 0), ("back", 3, n)), 0, 9),
    ("count", lambda n: ((n, 1), ("raise", 3, 1)), 1, 9999),
    ("desk", lambda n: ((2, n), ("raise", 3, 1)), 0, 4),
)

NO_DEEDS = (
    # a word that is none
    ((2, 0), ("ring", 3, 1)),
    ((2, 0), ("Raise", 3, 1)),
    ((2, 0), ("raise ", 3, 1)),
    ((2, 0), ("", 3, 1)),
    ((2, 0), (3, 3, 1)),
    ((2, 0), (("raise",), 3, 1)),
    # too few or too many parts of what is done
    ((2, 0), ()),
    ((2, 0), ("raise",)),
    ((2, 0), ("raise", 3)),
    ((2, 0), ("raise", 3, 1, 1)),
    ((2, 0), ("clear",)),
    ((2, 0), ("clear", 3, 1)),
    ((2, 0), ("hush", 3)),
    ((2, 0), ("hush", 3, 1, 1)),
    ((2, 0), ("take", 3)),
    ((2, 0), ("take", 3, 1, 1)),
    ((2, 0), ("back", 3)),
    ((2, 0), ("back", 3, 1, 1)),
    # too few or too many parts of the stamp
    ((), ("raise", 3, 1)),
    ((2,), ("raise", 3, 1)),
    ((2, 0, 0), ("raise", 3, 1)),
    # too few or too many parts of the deed
    (),
    ((2, 0),),
    (("raise", 3, 1),),
    ((2, 0), ("raise", 3, 1), 1),
    (2, 0, "raise", 3, 1),
    # parts of another kind, or in another turn
    (("raise", 3, 1), (2, 0)),
    (2, ("raise", 3, 1)),
    ("20", ("raise", 3, 1)),
    ((2, 0), "raise"),
    ((2, 0), 3),
    ((2, 0), ("raise", "3", 1)),
    ((2, 0), ("raise", 3, "1")),
    ((2, 0), ("raise", (3,), 1)),
    ((2, 0), ("raise", 3, (1,))),
    (("2", 0), ("raise", 3, 1)),
    ((2, "0"), ("raise", 3, 1)),
    (((2,), 0), ("raise", 3, 1)),
    ((2, (0,)), ("raise", 3, 1)),
    # True and False are no numbers
    ((True, 0), ("raise", 3, 1)),
    ((2, False), ("raise", 3, 1)),
    ((2, 0), ("raise", True, 1)),
    ((2, 0), ("raise", 3, True)),
    ((2, 0), ("clear", False)),
    ((2, 0), ("hush", 3, True)),
    ((2, 0), ("take", 3, False)),
    ((2, 0), ("back", 3, False)),
)


def refused_at(deeds):
    """Tell `at` of the refusal, or None if there is none."""
    try:
        board_of(deeds)
    except BadDeeds as refusal:
        return refusal.at
    return None


def many_deeds(many):
    return [((1 + at // 5, at % 5), ("hush", at % 30, at % 1000)) for at in range(many)]


class Ranges(unittest.TestCase):
    def test_both_ends_are_let_by(self):
        for name, deed, low, high in RANGES:
            for number in (low, high):
                with self.subTest(name, number=number):
                    self.assertIsNone(refused_at([GOOD, deed(number)]))

    def test_one_beyond_each_end_is_refused(self):
        for name, deed, low, high in RANGES:
            for number in (low - 1, high + 1):
                with self.subTest(name, number=number):
                    self.assertEqual(refused_at([GOOD, deed(number)]), 1)


class Shapes(unittest.TestCase):
    def test_each_kind_of_deed_is_let_by(self):
        for what in (("raise", 3, 1), ("clear", 3), ("hush", 3, 7), ("take", 3, 7), ("back", 3, 7)):
            with self.subTest(what):
                self.assertIsNone(refused_at([((2, 0), what)]))

    def test_what_is_no_deed_is_refused(self):
        for deed in NO_DEEDS:
            with self.subTest(deed):
                self.assertEqual(refused_at([deed]), 0)
                self.assertEqual(refused_at([GOOD, deed]), 1)


class Stamps(unittest.TestCase):
    def test_a_stamp_that_stands_ahead_is_refused(self):
        twice = ((1, 0), ("clear", 5))
        self.assertEqual(refused_at([GOOD, ((2, 0), ("clear", 0)), twice]), 2)

    def test_the_very_same_deed_twice_is_refused(self):
        self.assertEqual(refused_at([GOOD, GOOD]), 1)

    def test_like_counts_of_unlike_desks_are_let_by(self):
        self.assertIsNone(refused_at([((7, desk), ("clear", 1)) for desk in range(5)]))

    def test_like_desks_of_unlike_counts_are_let_by(self):
        self.assertIsNone(refused_at([((count, 2), ("clear", 1)) for count in (3, 1, 2)]))


class Refusals(unittest.TestCase):
    def test_of_two_wrong_ones_the_first_is_told(self):
        word = ((3, 0), ("ring", 3, 1))
        level = ((2, 0), ("raise", 3, 6))
        self.assertEqual(refused_at([GOOD, word, level]), 1)
        self.assertEqual(refused_at([GOOD, level, word]), 1)

    def test_a_wrong_one_ahead_of_a_stamp_twice(self):
        self.assertEqual(refused_at([GOOD, ((2, 0), ("clear", 30)), GOOD]), 1)

    def test_a_stamp_twice_ahead_of_a_wrong_one(self):
        self.assertEqual(refused_at([GOOD, GOOD, ((2, 0), ("clear", 30))]), 1)

    def test_the_place_is_that_of_the_list_not_of_the_stamps(self):
        self.assertEqual(refused_at([((9, 0), ("clear", 1)), ((8, 0), ("clear", 30)), GOOD]), 1)

    def test_a_refusal_is_a_line_error_and_none_of_the_others(self):
        with self.assertRaises(LineError) as caught:
            board_of([GOOD, GOOD])
        self.assertIsInstance(caught.exception, ValueError)
        self.assertIs(caught.exception.__class__, BadDeeds)
        for name in ("BadCauses", "BadLog", "BadDesk", "BadRota", "BadAlarm", "BadLevel",
                     "BadBeat", "BadPerson", "Full", "BadText"):
            self.assertNotIsInstance(caught.exception, getattr(errors, name))


class HowMany(unittest.TestCase):
    def test_the_empty_list(self):
        self.assertEqual(board_of([]), [])

    def test_a_thousand(self):
        self.assertIsNone(refused_at(many_deeds(1000)))

    def test_a_thousand_and_first(self):
        self.assertEqual(refused_at(many_deeds(1001)), 1000)
        self.assertEqual(refused_at(many_deeds(1010)), 1000)

    def test_a_wrong_one_ahead_of_the_thousand_and_first(self):
        deeds = many_deeds(1001)
        deeds[999] = deeds[0]
        self.assertEqual(refused_at(deeds), 999)

    def test_the_thousandth_is_looked_at(self):
        deeds = many_deeds(1000)
        deeds[999] = ((1, 5), ("clear", 0))
        self.assertEqual(refused_at(deeds), 999)


if __name__ == "__main__":
    unittest.main()
