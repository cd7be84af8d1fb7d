"""Promise [3], and [1] as far as it concerns boards."""

import itertools
import unittest

from alarmline.boards import board_of
from alarmline.errors import BadDeeds


def numbered(*whats):
    """Deeds of desk 0 with the counts 1, 2 and so on."""
    return [((count, 0), what) for count, what in enumerate(whats, start=1)]


RAISE = ("raise", 3, 2)
OPENING = (1, 0)


def behind(*whats):
    """The board behind the opening of alarm 3 at level 2, and these."""
    return board_of(numbered(RAISE, *whats))


class Closed(unittest.TestCase):
    def test_no_deeds(self):
        self.assertEqual(board_of([]), [])

    def test_all_but_a_raise_do_nothing_at_a_closed_alarm(self):
        for what in (("clear", 3), ("hush", 3, 50), ("take", 3, 4), ("back", 3, 4)):
            with self.subTest(what):
                self.assertEqual(board_of(numbered(what)), [])

    def test_what_is_done_ahead_of_the_opening_is_not_kept(self):
        deeds = numbered(("hush", 3, 50), ("take", 3, 4), ("clear", 3), ("raise", 3, 2))
        self.assertEqual(board_of(deeds), [(3, (4, 0), 2, 0, None)])

    def test_a_raise_opens(self):
        self.assertEqual(behind(), [(3, OPENING, 2, 0, None)])

    def test_a_raise_opens_at_each_level(self):
        for level in range(1, 6):
            deed = ((1, 0), ("raise", 3, level))
            self.assertEqual(board_of([deed]), [(3, (1, 0), level, 0, None)])

    def test_the_first_and_the_last_alarm(self):
        for alarm in (0, 29):
            deed = ((9999, 4), ("raise", alarm, 5))
            self.assertEqual(board_of([deed]), [(alarm, (9999, 4), 5, 0, None)])


class Open(unittest.TestCase):
    def test_a_raise_sets_the_level_and_is_no_opening(self):
        self.assertEqual(behind(("raise", 3, 5)), [(3, OPENING, 5, 0, None)])
        self.assertEqual(behind(("raise", 3, 5), ("raise", 3, 1)), [(3, OPENING, 1, 0, None)])

    def test_a_raise_leaves_hush_and_taker(self):
        self.assertEqual(
            behind(("hush", 3, 50), ("take", 3, 4), ("raise", 3, 5)),
            [(3, OPENING, 5, 50, 4)],
        )

    def test_a_clear_closes(self):
        self.assertEqual(behind(("clear", 3)), [])

    def test_a_hush(self):
        self.assertEqual(behind(("hush", 3, 999)), [(3, OPENING, 2, 999, None)])

    def test_a_hush_in_the_place_of_an_elder_one(self):
        for till in (60, 40, 0):
            with self.subTest(till):
                self.assertEqual(
                    behind(("hush", 3, 50), ("hush", 3, till)),
                    [(3, OPENING, 2, till, None)],
                )

    def test_a_take(self):
        for person in (0, 4, 9):
            with self.subTest(person):
                self.assertEqual(behind(("take", 3, person)), [(3, OPENING, 2, 0, person)])

    def test_a_take_of_one_that_somebody_has(self):
        for first in (0, 4):
            with self.subTest(first):
                self.assertEqual(
                    behind(("take", 3, first), ("take", 3, 5)),
                    [(3, OPENING, 2, 0, first)],
                )

    def test_a_back_of_the_person_who_has_it(self):
        for person in (0, 4):
            with self.subTest(person):
                self.assertEqual(
                    behind(("take", 3, person), ("back", 3, person)),
                    [(3, OPENING, 2, 0, None)],
                )

    def test_a_back_of_another_person(self):
        self.assertEqual(
            behind(("take", 3, 4), ("back", 3, 5)), [(3, OPENING, 2, 0, 4)]
        )

    def test_a_back_if_nobody_has_it(self):
        for person in (0, 4):
            with self.subTest(person):
                self.assertEqual(behind(("back", 3, person)), [(3, OPENING, 2, 0, None)])

    def test_a_take_behind_a_back(self):
        self.assertEqual(
            behind(("take", 3, 4), ("back", 3, 4), ("take", 3, 5)),
            [(3, OPENING, 2, 0, 5)],
        )

    def test_a_back_leaves_the_hush(self):
        self.assertEqual(
            behind(("hush", 3, 50), ("take", 3, 4), ("back", 3, 4)),
            [(3, OPENING, 2, 50, None)],
        )

    def test_deeds_at_another_alarm_leave_it(self):
        self.assertEqual(
            behind(("raise", 4, 1), ("hush", 4, 9), ("take", 4, 1), ("clear", 4)),
            [(3, OPENING, 2, 0, None)],
        )


class OpenAgain(unittest.TestCase):
    def test_a_new_opening_is_neither_hushed_nor_taken(self):
        self.assertEqual(
            behind(("hush", 3, 50), ("take", 3, 4), ("clear", 3), ("raise", 3, 4)),
            [(3, (5, 0), 4, 0, None)],
        )

    def test_a_second_clear_does_nothing(self):
        told = behind(("clear", 3), ("clear", 3), ("raise", 3, 2))
        self.assertEqual(told, [(3, (4, 0), 2, 0, None)])


class Order(unittest.TestCase):
    def test_deeds_in_any_order(self):
        deeds = numbered(
            ("raise", 3, 2), ("take", 3, 4), ("clear", 3), ("raise", 3, 5), ("hush", 3, 7)
        )
        told = [(3, (4, 0), 5, 7, None)]
        for shuffled in itertools.permutations(deeds):
            self.assertEqual(board_of(list(shuffled)), told)

    def test_counts_ascend_as_numbers(self):
        clear = ((10, 0), ("clear", 3))
        opening = ((9, 0), ("raise", 3, 1))
        self.assertEqual(board_of([clear, opening]), [])

    def test_the_count_weighs_more_than_the_desk(self):
        opening = ((1, 4), ("raise", 3, 1))
        self.assertEqual(board_of([((2, 0), ("clear", 3)), opening]), [])

    def test_of_like_counts_the_lesser_desk_is_first(self):
        opening = ((2, 1), ("raise", 3, 1))
        self.assertEqual(board_of([((2, 3), ("clear", 3)), opening]), [])
        self.assertEqual(
            board_of([((2, 0), ("clear", 3)), opening]), [(3, (2, 1), 1, 0, None)]
        )

    def test_of_two_raises_the_lesser_stamp_is_the_opening(self):
        first = ((2, 1), ("raise", 3, 1))
        second = ((2, 3), ("raise", 3, 4))
        self.assertEqual(board_of([second, first]), [(3, (2, 1), 4, 0, None)])

    def test_several_alarms_are_told_rising(self):
        alarms = (10, 29, 2, 0, 17)
        deeds = numbered(*[("raise", alarm, 1) for alarm in alarms])
        told = board_of(deeds + [((9, 1), ("take", 17, 0)), ((9, 2), ("hush", 2, 8))])
        self.assertEqual(told, [
            (0, (4, 0), 1, 0, None),
            (2, (3, 0), 1, 8, None),
            (10, (1, 0), 1, 0, None),
            (17, (5, 0), 1, 0, 0),
            (29, (2, 0), 1, 0, None),
        ])


class NothingKept(unittest.TestCase):
    def setUp(self):
        self.deeds = [((2, 0), ("hush", 3, 9)), (OPENING, RAISE), ((3, 1), ("raise", 1, 1))]
        self.told = [(1, (3, 1), 1, 0, None), (3, OPENING, 2, 9, None)]

    def test_the_list_handed_in_is_the_same_behind_the_call(self):
        before = list(self.deeds)
        board_of(self.deeds)
        self.assertEqual(self.deeds, before)

    def test_the_list_handed_in_is_the_same_behind_a_refusal(self):
        wrong = self.deeds + [(OPENING, RAISE)]
        before = list(wrong)
        with self.assertRaises(BadDeeds):
            board_of(wrong)
        self.assertEqual(wrong, before)

    def test_a_refusal_changes_nothing(self):
        with self.assertRaises(BadDeeds):
            board_of(self.deeds + [(OPENING, RAISE)])
        self.assertEqual(board_of(self.deeds), self.told)

    def test_what_is_told_may_be_changed(self):
        told = board_of(self.deeds)
        self.assertIsInstance(told, list)
        told.clear()
        self.assertEqual(board_of(self.deeds), self.told)

    def test_the_list_handed_in_may_be_changed(self):
        told = board_of(self.deeds)
        self.deeds.clear()
        self.assertEqual(told, self.told)
        self.assertEqual(board_of(self.deeds), [])

    def test_asked_again_the_same_is_told(self):
        self.assertEqual(board_of(self.deeds), board_of(self.deeds))

    def test_rows_are_tuples(self):
        for row in board_of(self.deeds):
            self.assertIsInstance(row, tuple)


if __name__ == "__main__":
    unittest.main()
