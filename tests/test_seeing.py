"""Promises [4] to [7], and [1] as far as it concerns what is in sight."""

import random
import unittest

from alarmline.boards import board_of
from alarmline.errors import BadAlarm, BadBeat, BadCauses, LineError
from alarmline.seeing import sight_of, where_of

CHAIN = [(alarm, alarm + 1) for alarm in range(29)]
# Sixty unlike pairs, each from a lesser alarm to a greater one: no ring.
SIXTY = [(cause, effect) for cause in range(3) for effect in range(9, 29)]


def board(levels, tills=(), takers=()):
    """The board of these alarms, a dict to levels; of tills and takers likewise."""
    whats = [("raise", alarm, level) for alarm, level in levels.items()]
    whats += [("hush", alarm, till) for alarm, till in dict(tills).items()]
    whats += [("take", alarm, person) for alarm, person in dict(takers).items()]
    return board_of([((count, 0), what) for count, what in enumerate(whats, start=1)])


def refused_at(causes):
    """Tell `at` of the refusal, or None if there is none."""
    try:
        sight_of([], causes, 0)
    except BadCauses as refusal:
        return refusal.at
    return None


class Causes(unittest.TestCase):
    def test_none(self):
        self.assertIsNone(refused_at([]))

    def test_a_pair_of_like_alarms(self):
        for alarm in (0, 3, 29):
            self.assertEqual(refused_at([(alarm, alarm)]), 0)
            self.assertEqual(refused_at([(1, 2), (alarm, alarm)]), 1)

    def test_both_ends_of_alarms_are_let_by(self):
        self.assertIsNone(refused_at([(0, 29)]))
        self.assertIsNone(refused_at([(29, 0)]))

    def test_alarms_one_beyond_each_end(self):
        for pair in ((-1, 5), (5, -1), (30, 5), (5, 30), (-1, 30)):
            with self.subTest(pair):
                self.assertEqual(refused_at([pair]), 0)
                self.assertEqual(refused_at([(1, 2), (2, 3), pair]), 2)

    def test_too_few_or_too_many_parts(self):
        for pair in ((), (1,), (1, 2, 3), (1, 2, 3, 4)):
            with self.subTest(pair):
                self.assertEqual(refused_at([pair]), 0)
                self.assertEqual(refused_at([(1, 2), pair]), 1)

    def test_true_and_false_are_no_alarms(self):
        for pair in ((True, 5), (5, False), (False, True)):
            with self.subTest(pair):
                self.assertEqual(refused_at([pair]), 0)

    def test_a_straight_ring(self):
        self.assertEqual(refused_at([(1, 2), (2, 1)]), 1)
        self.assertEqual(refused_at([(2, 1), (4, 5), (1, 2)]), 2)

    def test_a_ring_of_three(self):
        self.assertEqual(refused_at([(1, 2), (2, 3), (3, 1)]), 2)
        self.assertEqual(refused_at([(2, 3), (1, 2), (3, 1)]), 2)
        self.assertEqual(refused_at([(3, 1), (1, 2), (2, 3), (7, 8)]), 2)

    def test_a_ring_of_all_alarms(self):
        self.assertIsNone(refused_at(CHAIN))
        self.assertEqual(refused_at(CHAIN + [(29, 0)]), 29)
        self.assertEqual(refused_at([(29, 0)] + CHAIN), 29)
        self.assertEqual(refused_at(CHAIN[::-1] + [(29, 14)]), 29)

    def test_a_ring_that_closes_a_way_among_others(self):
        causes = [(1, 2), (1, 3), (2, 4), (3, 4), (4, 5), (4, 6), (9, 6), (6, 7)]
        self.assertIsNone(refused_at(causes))
        self.assertEqual(refused_at(causes + [(7, 9)]), 8)
        self.assertEqual(refused_at(causes + [(1, 7), (7, 1)]), 9)
        self.assertEqual(refused_at(causes + [(5, 9), (7, 5), (7, 8)]), 9)

    def test_several_ways_are_no_ring(self):
        self.assertIsNone(refused_at([(1, 2), (2, 3), (1, 3), (0, 3), (0, 1)]))

    def test_the_same_pair_twice_is_let_by(self):
        self.assertIsNone(refused_at([(1, 2), (1, 2)]))
        self.assertIsNone(refused_at([(1, 2), (2, 3), (1, 2)]))
        self.assertIsNone(refused_at([(1, 2)] * 60))

    def test_sixty_and_a_sixty_first(self):
        self.assertEqual(len(SIXTY), 60)
        self.assertIsNone(refused_at(SIXTY))
        self.assertEqual(refused_at(SIXTY + [(5, 6)]), 60)
        self.assertEqual(refused_at(SIXTY + [(5, 6)] * 3), 60)
        self.assertEqual(refused_at([(1, 2)] * 61), 60)

    def test_the_sixtieth_is_looked_at(self):
        self.assertEqual(refused_at(SIXTY[:59] + [(28, 0)]), 59)

    def test_of_two_wrong_ones_the_first_is_told(self):
        self.assertEqual(refused_at([(1, 2), (3, 3), (2, 1)]), 1)
        self.assertEqual(refused_at([(1, 2), (2, 1), (3, 3)]), 1)
        self.assertEqual(refused_at([(1, 30), (1,)]), 0)
        self.assertEqual(refused_at([(1,), (1, 30)]), 0)
        self.assertEqual(refused_at(SIXTY[:20] + [(4, 4)] + SIXTY[20:]), 20)

    def test_a_refusal_is_a_line_error(self):
        with self.assertRaises(LineError):
            sight_of([], [(1, 1)], 0)

    def test_where_of_refuses_the_same(self):
        for causes, at in (([(1, 2), (2, 1)], 1), ([(1, 2)] * 61, 60), ([(0, 30)], 0)):
            with self.assertRaises(BadCauses) as caught:
                where_of([], causes, 0, 0)
            self.assertEqual(caught.exception.at, at)


class Refusals(unittest.TestCase):
    def test_beats(self):
        for beat in (0, 999):
            self.assertEqual(sight_of([], [], beat), [])
            self.assertIsNone(where_of([], [], beat, 3))
        for beat in (-1, 1000, True, False):
            with self.subTest(beat):
                self.assertRaises(BadBeat, sight_of, [], [], beat)
                self.assertRaises(BadBeat, where_of, [], [], beat, 3)

    def test_alarms(self):
        for alarm in (0, 29):
            self.assertIsNone(where_of([], [], 0, alarm))
        for alarm in (-1, 30, True, False):
            with self.subTest(alarm):
                self.assertRaises(BadAlarm, where_of, [], [], 0, alarm)

    def test_what_is_handed_in_first_is_refused_first(self):
        self.assertRaises(BadCauses, sight_of, [], [(1, 1)], 1000)
        self.assertRaises(BadCauses, where_of, [], [(1, 1)], 1000, 30)
        self.assertRaises(BadCauses, where_of, [], [(1, 1)], 0, 30)
        self.assertRaises(BadBeat, where_of, [], [], 1000, 30)


class Rows(unittest.TestCase):
    def test_nothing_is_in_sight_of_an_empty_board(self):
        self.assertEqual(sight_of([], CHAIN, 5), [])

    def test_shown_ones_by_levels_and_alarms(self):
        told = sight_of(board({7: 2, 4: 5, 0: 2, 29: 3, 1: 5}, takers={0: 0, 4: 9}), [], 0)
        self.assertEqual(told, [
            ("open", 1, 5, None, 0),
            ("open", 4, 5, 9, 0),
            ("open", 29, 3, None, 0),
            ("open", 0, 2, 0, 0),
            ("open", 7, 2, None, 0),
        ])

    def test_every_level(self):
        told = sight_of(board({alarm: alarm for alarm in range(1, 6)}), [], 0)
        self.assertEqual(told, [("open", level, level, None, 0) for level in (5, 4, 3, 2, 1)])

    def test_a_hidden_one_is_in_its_tops_row(self):
        stands = board({1: 2, 2: 5})
        self.assertEqual(sight_of(stands, [(1, 2)], 0), [("open", 1, 2, None, 1)])
        self.assertEqual(where_of(stands, [(1, 2)], 0, 2), ("open", 1, 2, None, 1))
        self.assertEqual(where_of(stands, [(1, 2)], 0, 1), ("open", 1, 2, None, 1))

    def test_the_same_pair_twice_counts_once(self):
        self.assertEqual(sight_of(board({1: 2, 2: 5}), [(1, 2)] * 3, 0), [("open", 1, 2, None, 1)])

    def test_a_pair_has_its_cause_first(self):
        self.assertEqual(sight_of(board({1: 2, 2: 5}), [(2, 1)], 0), [("open", 2, 5, None, 1)])

    def test_a_chain_has_one_top(self):
        stands = board({alarm: 1 + alarm % 5 for alarm in range(30)})
        self.assertEqual(sight_of(stands, CHAIN, 0), [("open", 0, 1, None, 29)])
        for alarm in range(30):
            self.assertEqual(where_of(stands, CHAIN, 0, alarm), ("open", 0, 1, None, 29))

    def test_a_closed_cause_hides_nothing_and_breaks_the_chain(self):
        stands = board({1: 1, 2: 1, 4: 1, 5: 1})
        self.assertEqual(sight_of(stands, CHAIN, 0), [
            ("open", 1, 1, None, 1), ("open", 4, 1, None, 1),
        ])

    def test_a_hushed_cause_hides_nothing(self):
        stands = board({1: 3, 2: 4, 3: 5}, tills={2: 50})
        self.assertEqual(sight_of(stands, [(1, 2), (2, 3)], 49), [
            ("open", 3, 5, None, 0), ("open", 1, 3, None, 0), ("hushed", 2, 50),
        ])

    def test_a_hushed_one_is_not_hidden(self):
        stands = board({1: 3, 2: 4}, tills={2: 50})
        self.assertEqual(sight_of(stands, [(1, 2)], 0), [("open", 1, 3, None, 0), ("hushed", 2, 50)])
        self.assertEqual(where_of(stands, [(1, 2)], 0, 2), ("hushed", 2, 50))

    def test_of_several_open_causes_the_least_counts(self):
        causes = [(7, 3), (4, 3), (9, 3)]
        stands = board({3: 1, 4: 1, 7: 1, 9: 1})
        self.assertEqual(where_of(stands, causes, 0, 3), ("open", 4, 1, None, 1))
        self.assertEqual(where_of(stands, causes[::-1], 0, 3), ("open", 4, 1, None, 1))
        hushed = board({3: 1, 4: 1, 7: 1, 9: 1}, tills={4: 9})
        self.assertEqual(where_of(hushed, causes, 0, 3), ("open", 7, 1, None, 1))
        closed = board({3: 1, 7: 1, 9: 1})
        self.assertEqual(where_of(closed, causes, 0, 3), ("open", 7, 1, None, 1))

    def test_the_least_cause_counts_though_it_is_hidden(self):
        # 3 is under 4, which is under 8: the top is 8, not the lesser 7.
        causes = [(7, 3), (4, 3), (8, 4)]
        stands = board({3: 1, 4: 1, 7: 1, 8: 1})
        self.assertEqual(sight_of(stands, causes, 0), [
            ("open", 7, 1, None, 0), ("open", 8, 1, None, 2),
        ])
        self.assertEqual(where_of(stands, causes, 0, 3), ("open", 8, 1, None, 2))

    def test_a_beat_just_at_a_till_and_one_before_it(self):
        stands = board({1: 3}, tills={1: 50})
        self.assertEqual(sight_of(stands, [], 49), [("hushed", 1, 50)])
        self.assertEqual(sight_of(stands, [], 50), [("open", 1, 3, None, 0)])
        self.assertEqual(sight_of(stands, [], 51), [("open", 1, 3, None, 0)])
        self.assertEqual(where_of(stands, [], 49, 1), ("hushed", 1, 50))
        self.assertEqual(where_of(stands, [], 50, 1), ("open", 1, 3, None, 0))

    def test_a_hush_till_0_is_none(self):
        self.assertEqual(sight_of(board({1: 3}, tills={1: 0}), [], 0), [("open", 1, 3, None, 0)])

    def test_hushed_ones_stand_behind_all_levels_rising(self):
        stands = board({9: 5, 2: 5, 5: 1, 4: 5}, tills={9: 7, 2: 999, 4: 8}, takers={2: 3})
        self.assertEqual(sight_of(stands, [], 6), [
            ("open", 5, 1, None, 0), ("hushed", 2, 999), ("hushed", 4, 8), ("hushed", 9, 7),
        ])


class Floods(unittest.TestCase):
    def test_five_of_a_level_are_no_flood(self):
        self.assertEqual(sight_of(board({alarm: 4 for alarm in range(5)}), [], 0), [
            ("open", alarm, 4, None, 0) for alarm in range(5)
        ])

    def test_six_of_a_level_are_four_rows_and_a_flood(self):
        stands = board({alarm: 4 for alarm in range(10, 16)}, takers={12: 6, 15: 1})
        self.assertEqual(sight_of(stands, [], 0), [
            ("open", 10, 4, None, 0),
            ("open", 11, 4, None, 0),
            ("open", 12, 4, 6, 0),
            ("open", 13, 4, None, 0),
            ("flood", 4, 2, 0),
        ])

    def test_all_of_one_level(self):
        told = sight_of(board({alarm: 1 for alarm in range(30)}), [], 0)
        self.assertEqual(told[4:], [("flood", 1, 26, 0)])

    def test_a_floods_count_and_many(self):
        # 5 is the top of 20, 21 and 22; 6 of none; 7 of 23; 1 of 24; 8 of 25, which is hushed.
        causes = [(5, 20), (20, 21), (5, 22), (7, 23), (1, 24), (8, 25)]
        levels = {alarm: 2 for alarm in range(1, 9)} | {alarm: 5 for alarm in range(20, 26)}
        stands = board(levels, tills={25: 9})
        self.assertEqual(sight_of(stands, causes, 0), [
            ("open", 1, 2, None, 1),
            ("open", 2, 2, None, 0),
            ("open", 3, 2, None, 0),
            ("open", 4, 2, None, 0),
            ("flood", 2, 4, 4),
            ("hushed", 25, 9),
        ])
        flood = ("flood", 2, 4, 4)
        for alarm in (5, 6, 7, 8, 20, 21, 22, 23):
            with self.subTest(alarm):
                self.assertEqual(where_of(stands, causes, 0, alarm), flood)
        for alarm in (1, 24):
            self.assertEqual(where_of(stands, causes, 0, alarm), ("open", 1, 2, None, 1))
        self.assertEqual(where_of(stands, causes, 0, 25), ("hushed", 25, 9))
        self.assertIsNone(where_of(stands, causes, 0, 0))

    def test_hidden_and_hushed_ones_make_no_flood(self):
        stands = board({alarm: 3 for alarm in range(7)}, tills={3: 4})
        self.assertEqual(sight_of(stands, [(1, 6)], 0), [
            ("open", 0, 3, None, 0),
            ("open", 1, 3, None, 1),
            ("open", 2, 3, None, 0),
            ("open", 4, 3, None, 0),
            ("open", 5, 3, None, 0),
            ("hushed", 3, 4),
        ])

    def test_each_level_has_its_own_flood(self):
        levels = {alarm: 1 + alarm % 2 for alarm in range(14)}
        self.assertEqual(sight_of(board(levels), [], 0), [
            ("open", 1, 2, None, 0), ("open", 3, 2, None, 0), ("open", 5, 2, None, 0),
            ("open", 7, 2, None, 0), ("flood", 2, 3, 0),
            ("open", 0, 1, None, 0), ("open", 2, 1, None, 0), ("open", 4, 1, None, 0),
            ("open", 6, 1, None, 0), ("flood", 1, 3, 0),
        ])


def alarms_in(row):
    """How many alarms are in sight in a row."""
    if row[0] == "open":
        return 1 + row[4]
    return row[2] + row[3] if row[0] == "flood" else 1


def plain_state(stands, causes, beat, alarm):
    """[5] word for word: "hushed", "shown", or the least open cause that isn't hushed."""
    tills = {row[0]: row[3] for row in stands}
    if tills[alarm] > beat:
        return "hushed"
    over = [cause for cause, effect in causes if effect == alarm and tills.get(cause, 1000) <= beat]
    return min(over) if over else "shown"


def plain_top(stands, causes, beat, alarm):
    state = plain_state(stands, causes, beat, alarm)
    if state == "hushed":
        return None
    return alarm if state == "shown" else plain_top(stands, causes, beat, state)


def plain_sight(stands, causes, beat):
    """[6] word for word."""
    tops = [plain_top(stands, causes, beat, row[0]) for row in stands]
    rows = []
    for level in (5, 4, 3, 2, 1):
        shown = [row for row, top in zip(stands, tops) if row[0] == top and row[2] == level]
        told = [("open", row[0], level, row[4], tops.count(row[0]) - 1) for row in shown]
        if len(told) > 5:
            many = sum(row[4] for row in told[4:])
            told = told[:4] + [("flood", level, len(told) - 4, many)]
        rows += told
    return rows + [("hushed", row[0], row[3]) for row, top in zip(stands, tops) if top is None]


def chance_board(chance):
    alarms = chance.sample(range(30), chance.randrange(31))
    levels = {alarm: chance.choice((1, 2, 2, 2, 2, 3, 5)) for alarm in alarms}
    hushed = {alarm: chance.randrange(8) for alarm in alarms if chance.random() < 0.3}
    takers = {alarm: chance.randrange(10) for alarm in alarms if chance.random() < 0.3}
    return board(levels, hushed, takers)


def chance_causes(chance):
    order = chance.sample(range(30), 30)
    pairs = [sorted(chance.sample(range(30), 2)) for _ in range(chance.randrange(61))]
    return [(order[low], order[high]) for low, high in pairs]


class Chance(unittest.TestCase):
    def setUp(self):
        chance = random.Random(6)
        self.cases = [
            (chance_board(chance), chance_causes(chance), chance.randrange(8)) for _ in range(300)
        ]

    def test_the_rows_are_as_the_words_say(self):
        for stands, causes, beat in self.cases:
            self.assertEqual(sight_of(stands, causes, beat), plain_sight(stands, causes, beat))

    def test_the_counts_of_all_rows_together_are_all_open_alarms(self):
        for stands, causes, beat in self.cases:
            told = sight_of(stands, causes, beat)
            self.assertEqual(sum(alarms_in(row) for row in told), len(stands))

    def test_each_open_alarm_is_in_just_one_row(self):
        for stands, causes, beat in self.cases:
            told = sight_of(stands, causes, beat)
            self.assertEqual(len(told), len(set(told)))
            found = [where_of(stands, causes, beat, row[0]) for row in stands]
            for row in told:
                self.assertEqual(found.count(row), alarms_in(row))
            self.assertEqual([row for row in found if row not in told], [])

    def test_where_an_alarm_is(self):
        for stands, causes, beat in self.cases:
            told = sight_of(stands, causes, beat)
            numbers = [row[0] for row in stands]
            for alarm in range(30):
                where = where_of(stands, causes, beat, alarm)
                if alarm not in numbers:
                    self.assertIsNone(where)
                    continue
                top = plain_top(stands, causes, beat, alarm)
                level = dict(zip(numbers, [row[2] for row in stands])).get(top)
                own = [row for row in told if row[:2] == ("open", top)]
                flood = [row for row in told if row[:2] == ("flood", level)]
                hushed = [row for row in told if row[:2] == ("hushed", alarm)]
                self.assertEqual(where, (own or flood or hushed)[0])


class NothingKept(unittest.TestCase):
    def setUp(self):
        self.board = board({1: 2, 2: 5, 7: 3}, tills={7: 4}, takers={1: 6})
        self.causes = [(1, 2), (2, 7)]

    def test_what_is_handed_in_is_the_same_behind_the_call(self):
        board_before, causes_before = list(self.board), list(self.causes)
        sight_of(self.board, self.causes, 3)
        where_of(self.board, self.causes, 3, 2)
        self.assertEqual((self.board, self.causes), (board_before, causes_before))

    def test_what_is_handed_in_is_the_same_behind_a_refusal(self):
        causes = self.causes + [(7, 1)]
        self.assertRaises(BadCauses, sight_of, self.board, causes, 3)
        self.assertEqual(causes, self.causes + [(7, 1)])

    def test_what_is_told_may_be_changed(self):
        told = sight_of(self.board, self.causes, 3)
        same = list(told)
        self.assertIsInstance(told, list)
        told.clear()
        self.assertEqual(sight_of(self.board, self.causes, 3), same)

    def test_rows_are_tuples(self):
        for row in sight_of(self.board, self.causes, 3):
            self.assertIsInstance(row, tuple)
        self.assertIsInstance(where_of(self.board, self.causes, 3, 7), tuple)


if __name__ == "__main__":
    unittest.main()
