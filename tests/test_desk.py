"""Promises [8] and [9], and [1] as far as it concerns desks."""

import random
import unittest

from alarmline.boards import board_of
from alarmline.desk import Desk
from alarmline.errors import (
    BadAlarm, BadBeat, BadCauses, BadDesk, BadLevel, BadPerson, BadRota, Full,
)
from alarmline.seeing import sight_of, where_of

ROTA = ((0,), (1, 2), (3, 4, 5), (6, 7, 8, 9), (0, 5))


def desks_of(many, causes=()):
    return [Desk(number, many, list(causes), ROTA) for number in range(many)]


def deliver(desks, letters):
    """Let these letters be heard, and what is told behind them, till none is under way."""
    under_way = list(letters)
    while under_way:
        number, letter = under_way.pop(0)
        under_way += desks[number].hear(letter)


def letter_for(teller, number):
    """The letter that a desk has to tell another one now."""
    return dict(teller.letters())[number]


class Made(unittest.TestCase):
    def test_each_number_of_each_many(self):
        for many in range(2, 6):
            for number in range(many):
                self.assertEqual(Desk(number, many, [], ROTA).deeds(), [])

    def test_a_number_that_there_isnt(self):
        for number, many in ((-1, 2), (2, 2), (3, 3), (5, 5), (4, 4), (0, 1), (0, 6), (5, 6), (0, 0), (0, -1)):
            with self.subTest(number=number, many=many):
                self.assertRaises(BadDesk, Desk, number, many, [], ROTA)

    def test_true_and_false_are_no_numbers(self):
        self.assertRaises(BadDesk, Desk, True, 2, [], ROTA)
        self.assertRaises(BadDesk, Desk, False, 2, [], ROTA)
        self.assertRaises(BadDesk, Desk, 0, True, [], ROTA)

    def test_causes_are_refused_with_their_place(self):
        for causes, at in (([(1, 2), (2, 1)], 1), ([(1, 1)], 0), ([(1, 2)] * 61, 60), ([(1, 2), (1, 30)], 1)):
            with self.assertRaises(BadCauses) as caught:
                Desk(0, 2, causes, ROTA)
            self.assertEqual(caught.exception.at, at)

    def test_a_rota_that_is_one(self):
        for persons in ((0,), (9,), (0, 9), (3, 3), (1, 2, 3, 4), (9, 8, 7, 6)):
            for level in range(5):
                rota = ROTA[:level] + (persons,) + ROTA[level + 1:]
                self.assertEqual(Desk(0, 2, [], rota).deeds(), [])

    def test_a_rota_that_is_none(self):
        for persons in ((), (1, 2, 3, 4, 5), (-1,), (10,), (1, 10), (1, 2, 3, -1), (True,), (False, 1)):
            for level in range(5):
                rota = ROTA[:level] + (persons,) + ROTA[level + 1:]
                with self.subTest(rota):
                    self.assertRaises(BadRota, Desk, 0, 2, [], rota)

    def test_a_rota_of_too_few_or_too_many_levels(self):
        for rota in ((), ROTA[:1], ROTA[:4], ROTA + ((1,),)):
            with self.subTest(rota):
                self.assertRaises(BadRota, Desk, 0, 2, [], rota)

    def test_what_is_handed_in_first_is_refused_first(self):
        self.assertRaises(BadDesk, Desk, 2, 2, [(1, 1)], ())
        self.assertRaises(BadDesk, Desk, 0, 6, [(1, 1)], ())
        self.assertRaises(BadDesk, Desk, 0, 6, [], ())
        self.assertRaises(BadCauses, Desk, 0, 2, [(1, 1)], ())


class Deeds(unittest.TestCase):
    def test_each_deed_and_its_stamp(self):
        desk = Desk(1, 3, [], ROTA)
        self.assertEqual(desk.ring(3, 2), (1, 1))
        self.assertEqual(desk.hush(3, 999), (2, 1))
        self.assertEqual(desk.take(3, 9), (3, 1))
        self.assertEqual(desk.back(3, 8), (4, 1))
        self.assertEqual(desk.clear(29), (5, 1))
        self.assertEqual(desk.deeds(), [
            ((1, 1), ("raise", 3, 2)),
            ((2, 1), ("hush", 3, 999)),
            ((3, 1), ("take", 3, 9)),
            ((4, 1), ("back", 3, 8)),
            ((5, 1), ("clear", 29)),
        ])

    def test_a_deed_that_does_nothing_is_done_all_the_same(self):
        for do in (lambda d: d.clear(3), lambda d: d.hush(3, 5), lambda d: d.take(3, 5), lambda d: d.back(3, 5)):
            desk = Desk(0, 2, [], ROTA)
            self.assertEqual(do(desk), (1, 0))
            self.assertEqual(do(desk), (2, 0))
            self.assertEqual(len(desk.deeds()), 2)

    def test_both_ends_are_let_by(self):
        desk = Desk(0, 2, [], ROTA)
        for alarm in (0, 29):
            for level in (1, 5):
                desk.ring(alarm, level)
            for beat in (0, 999):
                desk.hush(alarm, beat)
            for person in (0, 9):
                desk.take(alarm, person)
                desk.back(alarm, person)
            desk.clear(alarm)
        self.assertEqual(len(desk.deeds()), 18)

    def test_a_stamp_is_behind_all_that_the_desk_knows(self):
        first, second, third = desks_of(3)
        for _ in range(7):
            second.ring(4, 1)
        first.ring(3, 1)
        first.hear(letter_for(second, 0))
        self.assertEqual(first.clear(3), (8, 0))
        self.assertEqual(third.clear(3), (1, 2))
        third.hear(letter_for(first, 2))
        self.assertEqual(third.clear(3), (9, 2))
        self.assertEqual(second.clear(4), (8, 1))

    def test_a_lesser_count_that_is_heard_does_not_set_it_back(self):
        first, second = desks_of(2)
        for _ in range(4):
            first.ring(3, 1)
        second.ring(5, 1)
        first.hear(letter_for(second, 0))
        self.assertEqual(first.clear(3), (5, 0))

    def test_deeds_are_told_as_stamps_ascend(self):
        first, second = desks_of(2)
        for alarm in range(12):
            first.ring(alarm, 1)
            second.clear(alarm)
        first.hear(letter_for(second, 0))
        told = first.deeds()
        self.assertEqual([stamp for stamp, _ in told], [(count, desk) for count in range(1, 13) for desk in (0, 1)])
        self.assertEqual(told[21], ((11, 1), ("clear", 10)))


def refused_calls():
    """(error, method, arguments): one wrong number, or two, of which the first is refused."""
    calls = [(BadAlarm, "clear", (alarm,)) for alarm in (-1, 30, True)]
    for error, name, wrong in (
        (BadLevel, "ring", (0, 6, True)), (BadBeat, "hush", (-1, 1000, False)),
        (BadPerson, "take", (-1, 10, True)), (BadPerson, "back", (-1, 10, False)),
    ):
        calls += [(error, name, (3, number)) for number in wrong]
        calls += [(BadAlarm, name, (30, number)) for number in wrong]
        calls += [(BadAlarm, name, (alarm, 1)) for alarm in (-1, 30, False)]
    return calls


def all_told(desk):
    """All that a desk tells without a change."""
    where = [desk.where(alarm) for alarm in range(30)]
    return desk.deeds(), desk.board(), desk.sight(), desk.letters(), where


class Refused(unittest.TestCase):
    def setUp(self):
        self.desk, self.other = desks_of(2)
        self.other.ring(5, 5)
        self.desk.ring(3, 2)
        self.desk.hear(letter_for(self.other, 0))

    def test_each_refusal_in_its_turn_changes_nothing(self):
        before = all_told(self.desk)
        for error, name, arguments in refused_calls():
            with self.subTest(name, arguments=arguments), self.assertRaises(error) as caught:
                getattr(self.desk, name)(*arguments)
            self.assertIs(caught.exception.__class__, error)
            self.assertEqual(all_told(self.desk), before)
        self.assertEqual(self.desk.clear(3), (2, 0))

    def test_where_refuses_an_alarm_that_is_none(self):
        for alarm in (-1, 30, True):
            self.assertRaises(BadAlarm, self.desk.where, alarm)


DOINGS = (
    lambda desk: desk.ring(3, 1), lambda desk: desk.clear(3), lambda desk: desk.hush(3, 5),
    lambda desk: desk.take(3, 5), lambda desk: desk.back(3, 5),
)


class FullDesks(unittest.TestCase):
    def setUp(self):
        self.desk, self.other = desks_of(2)
        for at in range(200):
            self.assertEqual(DOINGS[at % 5](self.desk), (at + 1, 0))

    def test_a_two_hundred_and_first_is_refused_and_changes_nothing(self):
        before = all_told(self.desk)
        self.assertEqual(len(before[0]), 200)
        for do in DOINGS:
            self.assertRaises(Full, do, self.desk)
        self.assertEqual(all_told(self.desk), before)

    def test_full_is_refused_behind_all(self):
        for error, name, arguments in refused_calls():
            with self.subTest(name, arguments=arguments):
                self.assertRaises(error, getattr(self.desk, name), *arguments)

    def test_only_deeds_done_there_count(self):
        self.other.hear(letter_for(self.desk, 1))
        for at in range(200):
            self.assertEqual(DOINGS[at % 5](self.other), (201 + at, 1))
        self.assertRaises(Full, DOINGS[0], self.other)

    def test_a_full_desk_still_hears_and_tells(self):
        self.other.ring(7, 4)
        deliver([self.desk, self.other], self.other.letters())
        self.assertEqual(len(self.desk.deeds()), 201)
        self.assertEqual(self.desk.deeds(), self.other.deeds())
        self.assertEqual(self.desk.beat(5), [])
        self.assertRaises(Full, DOINGS[0], self.desk)

    def test_a_thousand_deeds_at_five_desks(self):
        desks = desks_of(5)
        for at in range(1000):
            DOINGS[at % 3](desks[at % 5])
        for _ in range(5):
            for desk in desks:
                deliver(desks, desk.letters())
        for desk in desks:
            self.assertEqual(desk.letters(), [])
            self.assertEqual(desk.deeds(), desks[0].deeds())
            self.assertRaises(Full, desk.clear, 0)
        self.assertEqual(len(desks[0].deeds()), 1000)
        self.assertEqual(desks[0].board(), board_of(desks[0].deeds()))


class Letters(unittest.TestCase):
    def test_none_at_first(self):
        for desk in desks_of(5):
            self.assertEqual(desk.letters(), [])

    def test_a_deed_is_told_to_each_other_desk(self):
        desks = desks_of(4)
        desks[2].ring(3, 1)
        told = desks[2].letters()
        self.assertIsInstance(told, list)
        self.assertEqual([number for number, _ in told], [0, 1, 3])
        for number, letter in told:
            self.assertIsInstance(desks[number].hear(letter), list)
            self.assertEqual(desks[number].deeds(), [((1, 2), ("raise", 3, 1))])

    def test_asked_again_the_same_is_told(self):
        desks = desks_of(3)
        desks[0].ring(3, 1)
        self.assertEqual(desks[0].letters(), desks[0].letters())

    def test_letters_are_told_till_they_are_heard_and_answered(self):
        first, second = desks_of(2)
        first.ring(3, 1)
        lost = first.letters()
        self.assertEqual(len(lost), 1)
        answers = second.hear(letter_for(first, 1))
        # The answer is under way: the first desk can't know yet.
        self.assertEqual([number for number, _ in first.letters()], [1])
        deliver([first, second], answers)
        self.assertEqual((first.letters(), second.letters()), ([], []))

    def test_a_lost_letter_is_made_up_for_by_a_later_one(self):
        first, second = desks_of(2)
        for alarm in range(5):
            first.ring(alarm, 1)
            first.letters()
        second.hear(letter_for(first, 1))
        self.assertEqual(second.deeds(), first.deeds())

    def test_a_lost_answer_is_made_up_for(self):
        first, second = desks_of(2)
        first.ring(3, 1)
        second.hear(letter_for(first, 1))
        first.clear(3)
        deliver([first, second], first.letters())
        self.assertEqual(second.deeds(), first.deeds())
        self.assertEqual((first.letters(), second.letters()), ([], []))

    def test_late_letters(self):
        first, second = desks_of(2)
        first.ring(3, 1)
        early = letter_for(first, 1)
        first.clear(3)
        late = letter_for(first, 1)
        second.hear(late)
        self.assertEqual(second.deeds(), first.deeds())
        second.hear(early)
        self.assertEqual(second.deeds(), first.deeds())
        self.assertEqual(second.ring(4, 1), (3, 1))

    def test_a_letter_told_ahead_of_a_deed_says_nothing_of_it(self):
        first, second = desks_of(2)
        first.ring(3, 1)
        early = letter_for(first, 1)
        first.clear(3)
        second.hear(early)
        self.assertEqual(second.deeds(), [((1, 0), ("raise", 3, 1))])

    def test_a_letter_twice(self):
        first, second = desks_of(2)
        first.ring(3, 1)
        letter = letter_for(first, 1)
        for _ in range(3):
            deliver([first, second], second.hear(letter))
            self.assertEqual(second.deeds(), first.deeds())
            self.assertEqual((first.letters(), second.letters()), ([], []))

    def test_an_old_letter_does_not_hide_what_is_to_be_told(self):
        first, second = desks_of(2)
        first.ring(3, 1)
        old = letter_for(first, 1)
        deliver([first, second], [(1, old)])
        second.ring(4, 1)
        deliver([first, second], second.hear(old))
        deliver([first, second], second.letters())
        self.assertEqual(first.deeds(), second.deeds())

    def test_a_desk_tells_on_what_it_heard(self):
        first, second, third = desks_of(3)
        first.ring(3, 1)
        second.hear(letter_for(first, 1))
        third.hear(letter_for(second, 2))
        self.assertEqual(third.deeds(), [((1, 0), ("raise", 3, 1))])

    def test_crossing_letters(self):
        first, second = desks_of(2)
        first.ring(3, 1)
        second.ring(4, 1)
        deliver([first, second], first.letters() + second.letters())
        self.assertEqual(first.deeds(), [((1, 0), ("raise", 3, 1)), ((1, 1), ("raise", 4, 1))])
        self.assertEqual(second.deeds(), first.deeds())
        self.assertEqual((first.letters(), second.letters()), ([], []))


class Muddle:
    """Desks whose letters are lost, heard late, twice, and in any order, by a seed."""

    def __init__(self, seed):
        self.chance = random.Random(seed)
        self.desks = desks_of(self.chance.randrange(2, 6))
        self.road = []
        self.done = [[] for _ in self.desks]

    def step(self):
        chance = self.chance
        number = chance.randrange(len(self.desks))
        desk = self.desks[number]
        turn = chance.random()
        if turn < 0.4:
            stamp = chance.choice(DOINGS)(desk)
            self.done[number] += [deed for deed in desk.deeds() if deed[0] == stamp]
        elif turn < 0.6:
            self.road += [told for told in desk.letters() if chance.random() < 0.7]
        elif self.road:
            told = self.road[chance.randrange(len(self.road))]
            if chance.random() < 0.7:
                self.road.remove(told)
            self.road += [back for back in self.desks[told[0]].hear(told[1]) if chance.random() < 0.7]


class Knowing(unittest.TestCase):
    def test_no_deed_is_known_without_all_that_its_doer_had_done_ahead(self):
        heard_of_others = 0
        for seed in range(30):
            muddle = Muddle(seed)
            known = [[] for _ in muddle.desks]
            for _ in range(80):
                muddle.step()
                for number, desk in enumerate(muddle.desks):
                    told = desk.deeds()
                    for doer, done in enumerate(muddle.done):
                        of_doer = [deed for deed in told if deed[0][1] == doer]
                        self.assertEqual(of_doer, done[:len(of_doer)])
                        heard_of_others += len(of_doer) * (doer != number)
                    self.assertEqual([deed for deed in told if deed[0][1] == number], muddle.done[number])
                    # What is known stays known.
                    self.assertEqual([deed for deed in known[number] if deed not in told], [])
                    known[number] = told
        self.assertGreater(heard_of_others, 1000)


class Views(unittest.TestCase):
    def test_board_sight_and_where(self):
        causes = [(3, 4), (4, 5)]
        desk = Desk(0, 2, causes, ROTA)
        for alarm in (3, 4, 5, 7):
            desk.ring(alarm, 1 + alarm % 5)
        desk.hush(4, 10)
        desk.hush(7, 3)
        desk.take(3, 1)
        for beat in (0, 2, 3, 9, 10, 11):
            if beat:
                desk.beat(beat)
            self.assertEqual(desk.board(), board_of(desk.deeds()))
            self.assertEqual(desk.sight(), sight_of(desk.board(), causes, beat))
            for alarm in range(30):
                self.assertEqual(desk.where(alarm), where_of(desk.board(), causes, beat, alarm))
        self.assertEqual(desk.sight(), [("open", 3, 4, 1, 2), ("open", 7, 3, None, 0)])


class NothingKept(unittest.TestCase):
    def setUp(self):
        self.causes = [(3, 4), (4, 5)]
        self.desk = Desk(0, 2, self.causes, ROTA)
        self.other = Desk(1, 2, self.causes, ROTA)
        for alarm in (5, 4, 3):
            self.desk.ring(alarm, 2)

    def test_causes_are_the_same_behind_the_call(self):
        self.desk.sight()
        self.desk.beat(4)
        self.assertEqual(self.causes, [(3, 4), (4, 5)])

    def test_causes_may_be_changed_behind_it(self):
        before = all_told(self.desk)
        self.causes.clear()
        self.causes.append((5, 3))
        self.assertEqual(all_told(self.desk), before)
        self.assertEqual(self.desk.sight(), [("open", 3, 2, None, 2)])

    def test_lists_told_may_be_changed(self):
        before = all_told(self.desk)
        for told in all_told(self.desk):
            self.assertIsInstance(told, list)
            told.clear()
        self.assertEqual(all_told(self.desk), before)
        self.other.hear(letter_for(self.desk, 1)).clear()
        self.other.hear(letter_for(self.desk, 1)).append("more")
        self.assertEqual(self.other.deeds(), self.desk.deeds())
        self.desk.beat(3).clear()
        self.assertEqual(self.desk.beat(4), [])

    def test_asked_again_the_same_is_told(self):
        self.assertEqual(all_told(self.desk), all_told(self.desk))

    def test_a_letter_is_the_same_behind_the_hearing(self):
        before = self.desk.letters()
        for number, letter in self.desk.letters():
            self.other.hear(letter)
        self.other.ring(9, 1)
        self.assertEqual(self.desk.letters(), before)

    def test_a_letter_that_was_told_does_not_change(self):
        self.other.clear(1)
        early = letter_for(self.desk, 1)
        self.desk.clear(4)
        self.other.hear(early)
        self.assertEqual(len(self.other.deeds()), 4)

    def test_two_desks_share_nothing(self):
        self.assertEqual(self.other.deeds(), [])
        self.assertEqual(Desk(0, 2, [], ROTA).deeds(), [])

    def test_rows_and_deeds_are_tuples(self):
        for told in (self.desk.deeds(), self.desk.board(), self.desk.sight(), self.desk.letters()):
            for row in told:
                self.assertIsInstance(row, tuple)


if __name__ == "__main__":
    unittest.main()
