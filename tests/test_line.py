"""Promises [12] and [13], [14] as far as it concerns what log tells, and [1] of lines."""

import random
import unittest

from alarmline.boards import board_of
from alarmline.desk import Desk
from alarmline.errors import (
    BadAlarm, BadBeat, BadCauses, BadDesk, BadLevel, BadPerson, BadRota, Full, LineError,
)
from alarmline.judging import judged
from alarmline.line import Line
from alarmline.seeing import sight_of

ROTA = ((0,), (1, 2), (3, 4, 5), (6, 7, 8, 9), (0, 5))


def line_of(*steps, many=2, causes=()):
    """A line that did these steps."""
    line = Line(many, list(causes), ROTA)
    for step in steps:
        line.do(step)
    return line


def all_told(line):
    return line.shown(), line.log(), line.waits()


class Made(unittest.TestCase):
    def test_each_many(self):
        for many in range(2, 6):
            line = Line(many, [], ROTA)
            self.assertEqual(line.shown(), [([], [])] * many)
            self.assertEqual(line.log(), [])
            self.assertEqual(line.waits(), 0)

    def test_a_many_that_cant_be(self):
        for many in (1, 6, 0, -1, -2, True, False):
            with self.subTest(many):
                self.assertRaises(BadDesk, Line, many, [], ROTA)

    def test_causes_are_refused_with_their_place(self):
        for causes, at in (([(1, 2), (2, 1)], 1), ([(1, 1)], 0), ([(1, 2)] * 61, 60), ([(1, 2), (1, 30)], 1)):
            with self.assertRaises(BadCauses) as caught:
                Line(2, causes, ROTA)
            self.assertEqual(caught.exception.at, at)
        self.assertEqual(Line(2, [(1, 2)] * 60, ROTA).waits(), 0)

    def test_a_rota_that_is_none(self):
        for rota in ((), ROTA[:4], ROTA + ((1,),), ((),) + ROTA[1:], ((1, 2, 3, 4, 5),) + ROTA[1:],
                     ROTA[:4] + ((10,),), ROTA[:4] + ((-1,),), ROTA[:4] + ((True,),)):
            with self.subTest(rota):
                self.assertRaises(BadRota, Line, 2, [], rota)

    def test_what_is_handed_in_first_is_refused_first(self):
        self.assertRaises(BadDesk, Line, 1, [(1, 1)], ())
        self.assertRaises(BadDesk, Line, 6, [(1, 1)], ROTA)
        self.assertRaises(BadDesk, Line, 0, [], ())
        self.assertRaises(BadCauses, Line, 2, [(1, 1)], ())

    def test_the_causes_and_the_rota_are_the_desks(self):
        line = line_of(("ring", 0, 3, 2), ("ring", 0, 4, 5), many=3, causes=[(3, 4)])
        self.assertEqual(line.shown()[0][1], [("open", 3, 2, None, 1)])
        # Person 2 sits at desk 2, which has not heard yet.
        self.assertEqual(line.do(("beat", 0, 1)), [])
        line.do(("settle",))
        self.assertEqual(line.do(("beat", 1, 1)), [])
        self.assertEqual(line.do(("beat", 2, 1)), [(2, 3, (1, 0))])


class DeedSteps(unittest.TestCase):
    def test_each_deed_tells_its_stamp(self):
        line = Line(3, [], ROTA)
        self.assertEqual(line.do(("ring", 1, 3, 2)), (1, 1))
        self.assertEqual(line.do(("hush", 1, 3, 999)), (2, 1))
        self.assertEqual(line.do(("take", 1, 3, 9)), (3, 1))
        self.assertEqual(line.do(("back", 1, 3, 8)), (4, 1))
        self.assertEqual(line.do(("clear", 1, 29)), (5, 1))
        self.assertEqual(line.do(("ring", 2, 3, 2)), (1, 2))
        deeds = [
            ((1, 1), ("raise", 3, 2)),
            ((2, 1), ("hush", 3, 999)),
            ((3, 1), ("take", 3, 9)),
            ((4, 1), ("back", 3, 8)),
            ((5, 1), ("clear", 29)),
        ]
        self.assertEqual(line.shown(), [
            ([], []),
            (deeds, [("hushed", 3, 999)]),
            ([((1, 2), ("raise", 3, 2))], [("open", 3, 2, None, 0)]),
        ])
        self.assertEqual(line.log(), [("done", 1, deed) for deed in deeds] + [("done", 2, ((1, 2), ("raise", 3, 2)))])
        self.assertEqual(line.waits(), 0)

    def test_a_stamp_is_behind_all_that_the_desk_heard(self):
        line = line_of(("ring", 0, 3, 2), ("clear", 0, 3), ("send", 0), ("carry", 1))
        self.assertEqual(line.do(("ring", 1, 4, 1)), (3, 1))
        self.assertEqual(line.do(("ring", 0, 4, 1)), (3, 0))

    def test_both_ends_are_let_by(self):
        line = Line(5, [], ROTA)
        for desk in (0, 4):
            for step in (("ring", desk, 0, 1), ("ring", desk, 29, 5), ("clear", desk, 0), ("clear", desk, 29),
                         ("hush", desk, 0, 0), ("hush", desk, 29, 999), ("take", desk, 0, 0), ("take", desk, 29, 9),
                         ("back", desk, 0, 0), ("back", desk, 29, 9)):
                with self.subTest(step):
                    self.assertEqual(line.do(step)[1], desk)
            self.assertEqual(line.do(("beat", desk, 999)), [])
            self.assertIsNone(line.do(("send", desk)))

    def test_a_line_full_at_all_its_desks(self):
        line = Line(5, [], ROTA)
        for at in range(1000):
            line.do(("ring", at % 5, at % 30, 1))
        for desk in range(5):
            self.assertRaises(Full, line.do, ("clear", desk, 0))
        line.do(("settle",))
        self.assertEqual(len(line.shown()[4][0]), 1000)
        self.assertEqual(line.shown(), [line.shown()[0]] * 5)
        self.assertEqual(len(line.log()), 5000)
        self.assertEqual(line.waits(), 0)


def refused_steps(many):
    """(error, step): one wrong number, or several, of which the first is refused."""
    calls = []
    for desk in (-1, many, many + 1, 5, 1000, True, False):
        for rest in (("ring", 3, 1), ("ring", 30, 6), ("clear", 3), ("clear", 30), ("hush", 3, 5), ("hush", -1, 1000),
                     ("take", 3, 5), ("take", 30, 10), ("back", 3, 5), ("back", 30, -1), ("beat", 500), ("beat", 0),
                     ("beat", 1000), ("send",)):
            calls.append((BadDesk, (rest[0], desk) + rest[1:]))
    calls += [(BadAlarm, ("clear", 0, alarm)) for alarm in (-1, 30, True)]
    for error, word, wrong in (
        (BadLevel, "ring", (0, 6, -1, True)), (BadBeat, "hush", (-1, 1000, False)),
        (BadPerson, "take", (-1, 10, True)), (BadPerson, "back", (-1, 10, False)),
    ):
        calls += [(error, (word, 0, 3, number)) for number in wrong]
        calls += [(BadAlarm, (word, 0, 30, number)) for number in wrong]
        calls += [(BadAlarm, (word, 0, alarm, 1)) for alarm in (-1, 30, False)]
    calls += [(BadBeat, ("beat", 0, number)) for number in (-1, 0, 6, 7, 1000, True)]
    return calls


class Refused(unittest.TestCase):
    def line(self, many):
        return line_of(("ring", 1, 5, 5), ("ring", 0, 3, 2), ("send", 1), ("carry", 1), ("beat", 0, 7),
                       ("beat", 1, 8), ("send", 0), many=many)

    def test_each_refusal_in_its_turn_changes_nothing(self):
        for many in (2, 4):
            line = self.line(many)
            before = all_told(line)
            for error, step in refused_steps(many):
                with self.subTest(step), self.assertRaises(error) as caught:
                    line.do(step)
                self.assertIs(caught.exception.__class__, error)
                self.assertEqual(all_told(line), before)
            self.assertEqual(line.do(("clear", 0, 3)), (2, 0))
            self.assertEqual(line.do(("beat", 0, 8)), [])

    def test_a_full_desk_is_refused_behind_all_else(self):
        line = self.line(2)
        for _ in range(199):
            line.do(("clear", 0, 3))
        before = all_told(line)
        for step in (("ring", 0, 3, 1), ("clear", 0, 3), ("hush", 0, 3, 5), ("take", 0, 3, 5), ("back", 0, 3, 5)):
            self.assertRaises(Full, line.do, step)
        for error, step in refused_steps(2):
            with self.subTest(step):
                self.assertRaises(error, line.do, step)
        self.assertEqual(all_told(line), before)
        self.assertEqual(len(line.shown()[0][0]), 201)
        # The other desk did one only, and a full desk does all that is no deed.
        self.assertEqual(line.do(("clear", 1, 3)), (2, 1))
        self.assertEqual(line.do(("beat", 0, 9)), [])
        line.do(("settle",))
        self.assertEqual(line.shown()[0][0], line.shown()[1][0])
        self.assertEqual(len(line.shown()[0][0]), 202)

    def test_a_beat_that_is_not_later(self):
        line = line_of(("beat", 0, 7))
        for number in (7, 6, 1, 0):
            self.assertRaises(BadBeat, line.do, ("beat", 0, number))
        self.assertEqual(line.do(("beat", 1, 7)), [])
        self.assertEqual(line.do(("beat", 0, 8)), [])
        self.assertEqual(line.log(), [("beat", 0, 7), ("beat", 1, 7), ("beat", 0, 8)])


class Beats(unittest.TestCase):
    def test_a_beat_tells_what_the_desk_tells(self):
        line = line_of(("ring", 0, 9, 2), ("ring", 0, 3, 1), ("ring", 1, 4, 1), ("ring", 0, 8, 1))
        self.assertEqual(line.do(("beat", 0, 4)), [(0, 3, (2, 0)), (0, 8, (3, 0)), (2, 9, (1, 0))])
        self.assertEqual(line.do(("beat", 0, 5)), [])
        self.assertEqual(line.do(("beat", 1, 5)), [])

    def test_a_beat_is_of_its_desk_alone(self):
        line = line_of(("ring", 0, 3, 1), ("hush", 0, 3, 10), ("settle",))
        line.do(("beat", 0, 10))
        self.assertEqual([sight for _, sight in line.shown()], [[("open", 3, 1, None, 0)], [("hushed", 3, 10)]])


class Road(unittest.TestCase):
    def test_send_lays_letters_behind_those_that_lie_there(self):
        line = line_of(("ring", 0, 3, 1), ("ring", 1, 4, 1), ("ring", 2, 5, 1), many=3)
        self.assertIsNone(line.do(("send", 2)))
        self.assertEqual(line.waits(), 2)
        self.assertIsNone(line.do(("send", 0)))
        self.assertEqual(line.waits(), 4)
        before = line.shown()
        self.assertEqual(len(line.log()), 3)
        line.do(("carry", 1))
        self.assertEqual(line.shown(), [
            ([((1, 0), ("raise", 3, 1)), ((1, 2), ("raise", 5, 1))],
             [("open", 3, 1, None, 0), ("open", 5, 1, None, 0)]),
            before[1], before[2],
        ])
        line.do(("carry", 1))
        self.assertEqual([len(deeds) for deeds, _ in line.shown()], [2, 2, 1])
        line.do(("carry", 2))
        self.assertEqual([len(deeds) for deeds, _ in line.shown()], [2, 3, 2])

    def test_send_of_none_and_send_again(self):
        line = line_of(("send", 0), ("send", 1))
        self.assertEqual(line.waits(), 0)
        line = line_of(("ring", 0, 3, 1), ("send", 0), ("send", 0), ("send", 1))
        self.assertEqual(line.waits(), 2)
        self.assertEqual(line.log(), [("done", 0, ((1, 0), ("raise", 3, 1)))])

    def test_a_letter_says_what_was_known_when_it_was_sent(self):
        line = line_of(("ring", 0, 3, 1), ("send", 0), ("clear", 0, 3), ("carry", 1))
        self.assertEqual(line.shown()[1], ([((1, 0), ("raise", 3, 1))], [("open", 3, 1, None, 0)]))

    def test_carry_of_none(self):
        line = line_of(("ring", 0, 3, 1), ("send", 0))
        before = all_told(line)
        for many in (0, -1):
            self.assertIsNone(line.do(("carry", many)))
            self.assertEqual(all_told(line), before)

    def test_carry_on_an_empty_road(self):
        line = line_of(("ring", 0, 3, 1))
        before = all_told(line)
        for many in (0, 1, 9999):
            self.assertIsNone(line.do(("carry", many)))
            self.assertEqual(all_told(line), before)

    def test_carry_of_some_lays_answers_behind(self):
        line = line_of(("ring", 0, 3, 1), ("ring", 0, 4, 1), ("send", 0), many=4)
        self.assertEqual(line.waits(), 3)
        line.do(("carry", 2))
        self.assertEqual([len(deeds) for deeds, _ in line.shown()], [2, 2, 2, 0])
        # One letter lies there yet, ahead of the two answers.
        self.assertEqual(line.waits(), 3)
        line.do(("carry", 1))
        self.assertEqual([len(deeds) for deeds, _ in line.shown()], [2, 2, 2, 2])

    def test_carry_of_more_than_lie_there_leaves_the_answers(self):
        for many in (3, 4, 9999):
            line = line_of(("ring", 0, 3, 1), ("send", 0), many=4)
            self.assertIsNone(line.do(("carry", many)))
            self.assertEqual([len(deeds) for deeds, _ in line.shown()], [1, 1, 1, 1])
            self.assertEqual(line.waits(), 3)

    def test_lose(self):
        line = line_of(("ring", 0, 3, 1), ("send", 0), many=4)
        self.assertIsNone(line.do(("lose", 1)))
        self.assertEqual(line.waits(), 2)
        line.do(("carry", 2))
        self.assertEqual([len(deeds) for deeds, _ in line.shown()], [1, 1, 0, 1])

    def test_lose_the_first_and_the_last(self):
        for place, known in ((0, [1, 0, 1, 1]), (2, [1, 1, 1, 0])):
            line = line_of(("ring", 0, 3, 1), ("send", 0), ("lose", place), ("carry", 5), many=4)
            self.assertEqual([len(deeds) for deeds, _ in line.shown()], known)

    def test_lose_and_twice_of_one_that_there_isnt(self):
        empty = line_of(("ring", 0, 3, 1), many=4)
        full = line_of(("ring", 0, 3, 1), ("send", 0), many=4)
        for word in ("lose", "twice"):
            for line, places in ((empty, (0, 1, -1, 9999)), (full, (3, 4, 9999, -1, -3))):
                before = all_told(line)
                for place in places:
                    with self.subTest(word, place=place):
                        self.assertIsNone(line.do((word, place)))
                        self.assertEqual(all_told(line), before)

    def test_twice_hears_a_letter_that_stays(self):
        line = line_of(("ring", 0, 3, 1), ("send", 0), many=4)
        self.assertIsNone(line.do(("twice", 1)))
        self.assertEqual([len(deeds) for deeds, _ in line.shown()], [1, 0, 1, 0])
        # The answer is laid behind the three.
        self.assertEqual(line.waits(), 4)
        line.do(("lose", 3))
        line.do(("carry", 1))
        self.assertEqual([len(deeds) for deeds, _ in line.shown()], [1, 1, 1, 0])
        line.do(("carry", 2))
        self.assertEqual([len(deeds) for deeds, _ in line.shown()], [1, 1, 1, 1])

    def test_twice_of_the_first_and_the_last(self):
        for place, known in ((0, [1, 1, 0, 0]), (2, [1, 0, 0, 1])):
            line = line_of(("ring", 0, 3, 1), ("send", 0), ("twice", place), many=4)
            self.assertEqual([len(deeds) for deeds, _ in line.shown()], known)


class Settle(unittest.TestCase):
    def assert_settled(self, line, many):
        shown = line.shown()
        self.assertEqual(line.waits(), 0)
        self.assertEqual([deeds for deeds, _ in shown], [shown[0][0]] * many)
        before = all_told(line)
        for desk in range(many):
            line.do(("send", desk))
        self.assertEqual(all_told(line), before)

    def test_a_line_where_nothing_was_done(self):
        for many in range(2, 6):
            line = Line(many, [], ROTA)
            self.assertIsNone(line.do(("settle",)))
            self.assertEqual(all_told(line), ([([], [])] * many, [], 0))

    def test_an_empty_road(self):
        for many in range(2, 6):
            for doers in ((0,), (many - 1,), range(many)):
                line = line_of(*[("ring", desk, desk, 1) for desk in doers], many=many)
                self.assertIsNone(line.do(("settle",)))
                self.assertEqual(len(line.shown()[0][0]), len(doers))
                self.assert_settled(line, many)

    def test_a_full_road(self):
        for many in range(2, 6):
            line = Line(many, [], ROTA)
            for at in range(30):
                line.do(("ring", at % many, at, 1))
                line.do(("send", at % many))
            self.assertEqual(line.waits(), 30 * (many - 1))
            line.do(("settle",))
            self.assertEqual(len(line.shown()[0][0]), 30)
            self.assert_settled(line, many)

    def test_what_lies_on_the_road_is_heard_ahead_of_the_rounds(self):
        # Desk 2 hears first what desk 1 sent ahead of its second deed.
        line = line_of(("ring", 1, 3, 1), ("send", 1), ("ring", 1, 4, 1), ("lose", 0), ("settle",), many=3)
        first, second = ((1, 1), ("raise", 3, 1)), ((2, 1), ("raise", 4, 1))
        self.assertEqual(line.log()[:3], [("done", 1, first), ("done", 1, second), ("heard", 2, first)])
        self.assertEqual(sorted(line.log()[3:]), [("heard", 0, first), ("heard", 0, second), ("heard", 2, second)])

    def test_behind_it_desks_show_the_same_and_each_opening_is_told_once(self):
        line = line_of(("ring", 0, 3, 1), ("ring", 0, 8, 2), ("ring", 1, 3, 4), ("take", 2, 3, 4), ("ring", 2, 7, 4),
                       ("beat", 2, 9), ("beat", 1, 9), ("beat", 0, 9), ("settle",), many=3)
        self.assert_settled(line, 3)
        self.assertEqual([sight for _, sight in line.shown()], [line.shown()[0][1]] * 3)
        self.assertEqual([entry for entry in line.log() if entry[0] == "told"], [
            ("told", 2, 8, 7, (2, 2)), ("told", 1, 7, 3, (1, 1)), ("told", 0, 0, 3, (1, 0)),
        ])
        # Person 1 sits at desk 1, which had not heard of alarm 8.
        self.assertEqual([line.do(("beat", desk, 10)) for desk in range(3)], [[], [(1, 8, (2, 0))], []])


class Log(unittest.TestCase):
    def test_each_deed(self):
        line = line_of(("ring", 1, 3, 2), ("hush", 1, 3, 7), ("take", 0, 3, 4), ("back", 0, 3, 4), ("clear", 1, 3))
        self.assertEqual(line.log(), [
            ("done", 1, ((1, 1), ("raise", 3, 2))),
            ("done", 1, ((2, 1), ("hush", 3, 7))),
            ("done", 0, ((1, 0), ("take", 3, 4))),
            ("done", 0, ((2, 0), ("back", 3, 4))),
            ("done", 1, ((3, 1), ("clear", 3))),
        ])

    def test_several_deeds_heard_by_one_letter_are_by_stamps(self):
        line = Line(3, [], ROTA)
        for alarm in range(11):
            line.do(("ring", 2, alarm, 1))
            line.do(("clear", 1, alarm))
        line.do(("send", 2))
        # Desk 1 hears of desk 2, then tells desk 0 of both.
        for step in (("lose", 0), ("carry", 1), ("lose", 0), ("send", 1), ("carry", 1)):
            line.do(step)
        by_two = [((alarm + 1, 2), ("raise", alarm, 1)) for alarm in range(11)]
        by_one = [((alarm + 1, 1), ("clear", alarm)) for alarm in range(11)]
        self.assertEqual(line.log()[22:], (
            [("heard", 1, deed) for deed in by_two]
            + [("heard", 0, deed) for pair in zip(by_one, by_two) for deed in pair]
        ))

    def test_a_letter_heard_again_logs_nothing(self):
        line = line_of(("ring", 0, 3, 1), ("send", 0), ("twice", 0))
        heard = [("done", 0, ((1, 0), ("raise", 3, 1))), ("heard", 1, ((1, 0), ("raise", 3, 1)))]
        self.assertEqual(line.log(), heard)
        for step in (("twice", 0), ("carry", 1), ("carry", 9), ("send", 0), ("carry", 9), ("settle",)):
            line.do(step)
            self.assertEqual(line.log(), heard)

    def test_of_a_letter_only_what_is_new_is_logged(self):
        line = line_of(("ring", 0, 3, 1), ("send", 0), ("carry", 1), ("clear", 0, 3), ("send", 0), ("settle",))
        self.assertEqual(line.log()[2:], [
            ("done", 0, ((2, 0), ("clear", 3))), ("heard", 1, ((2, 0), ("clear", 3))),
        ])

    def test_a_desk_does_not_hear_of_its_own_deeds(self):
        line = line_of(("ring", 0, 3, 1), ("ring", 1, 4, 1), ("settle",))
        self.assertEqual(sorted(line.log()), [
            ("done", 0, ((1, 0), ("raise", 3, 1))), ("done", 1, ((1, 1), ("raise", 4, 1))),
            ("heard", 0, ((1, 1), ("raise", 4, 1))), ("heard", 1, ((1, 0), ("raise", 3, 1))),
        ])

    def test_told_right_behind_its_beat_in_the_order_told(self):
        line = line_of(("ring", 0, 9, 1), ("ring", 0, 3, 1), ("ring", 1, 5, 1), ("ring", 0, 4, 1))
        told = line.do(("beat", 0, 6))
        self.assertEqual(told, [(0, 3, (2, 0)), (0, 4, (3, 0)), (0, 9, (1, 0))])
        line.do(("beat", 1, 2))
        line.do(("settle",))
        line.do(("beat", 0, 7))
        self.assertEqual(line.log()[4:9], [
            ("beat", 0, 6), ("told", 0, 0, 3, (2, 0)), ("told", 0, 0, 4, (3, 0)), ("told", 0, 0, 9, (1, 0)),
            ("beat", 1, 2),
        ])
        self.assertEqual(line.log()[-2:], [("beat", 0, 7), ("told", 0, 0, 5, (1, 1))])

    def test_letters_sent_and_lost_are_not_logged(self):
        line = line_of(("ring", 0, 3, 1), ("send", 0), ("lose", 0), ("carry", 1), ("lose", 5), ("twice", 5))
        self.assertEqual(line.log(), [("done", 0, ((1, 0), ("raise", 3, 1)))])


class PlainLine:
    """[12] and [13] word for word, with real desks."""

    def __init__(self, many, causes, rota):
        self.desks = [Desk(number, many, causes, rota) for number in range(many)]
        self.road = []
        self.log = []

    def hear(self, number, letter):
        ahead = self.desks[number].deeds()
        answers = self.desks[number].hear(letter)
        self.log += [("heard", number, deed) for deed in self.desks[number].deeds() if deed not in ahead]
        return answers

    def hear_on(self, letters):
        while letters:
            letters = letters[1:] + self.hear(*letters[0])

    def settle(self):
        self.hear_on(self.road)
        self.road = []
        told = None
        while told != 0:
            told = 0
            for desk in self.desks:
                letters = desk.letters()
                told += len(letters)
                self.hear_on(letters)

    def do(self, step):
        word, numbers = step[0], step[1:]
        if word == "settle":
            self.settle()
        elif word == "carry":
            lying = self.road[:max(numbers[0], 0)]
            self.road = self.road[len(lying):]
            for told in lying:
                self.road = self.road + self.hear(*told)
        elif word in ("lose", "twice"):
            if numbers[0] in range(len(self.road)):
                told = self.road[numbers[0]]
                if word == "lose":
                    self.road = self.road[:numbers[0]] + self.road[numbers[0] + 1:]
                else:
                    self.road = self.road + self.hear(*told)
        else:
            return self.do_at(word, *numbers)

    def do_at(self, word, number, *numbers):
        if isinstance(number, bool) or number not in range(len(self.desks)):
            raise BadDesk("none")
        desk = self.desks[number]
        if word == "send":
            self.road = self.road + desk.letters()
            return None
        told = getattr(desk, word)(*numbers)
        if word == "beat":
            self.log.append(("beat", number) + numbers)
            self.log += [("told", number) + row for row in told]
        else:
            self.log.append(("done", number, (told, ("raise" if word == "ring" else word,) + numbers)))
        return told


def any_step(chance, many):
    """A step of any sort; now and then one that is refused."""
    desk = chance.randrange(many) if chance.random() < 0.98 else chance.choice((-1, many))
    alarm = chance.randrange(9) if chance.random() < 0.98 else chance.choice((-1, 30))
    person = chance.randrange(3) if chance.random() < 0.95 else chance.choice((-1, 10))
    word = chance.choice(
        ("ring", "ring", "ring", "ring", "clear", "hush", "take", "back", "beat", "beat", "beat", "send", "send",
         "carry", "carry", "carry", "lose", "twice", "twice")
    )
    if chance.random() < 0.02:
        return ("settle",)
    if word == "ring":
        return (word, desk, alarm, chance.randrange(1, 6) if chance.random() < 0.95 else chance.choice((0, 6)))
    if word == "clear":
        return (word, desk, alarm)
    if word == "hush":
        return (word, desk, alarm, chance.randrange(40))
    if word in ("take", "back"):
        return (word, desk, alarm, person)
    if word == "beat":
        return (word, desk, chance.randrange(40))
    if word == "send":
        return (word, desk)
    return (word, chance.randrange(-1, 6))


def world_of(seed, steps):
    """(many, causes, rota, steps), by a seed."""
    chance = random.Random(seed)
    many = chance.randrange(2, 6)
    order = chance.sample(range(9), 9)
    pairs = [sorted(chance.sample(range(9), 2)) for _ in range(chance.randrange(7))]
    causes = [(order[low], order[high]) for low, high in pairs]
    rota = tuple(tuple(chance.sample(range(10), chance.randrange(1, 5))) for _ in range(5))
    return many, causes, rota, [any_step(chance, many) for _ in range(steps)]


def told_or_refused(line, step):
    try:
        return line.do(step)
    except LineError as error:
        return error.__class__


class Chance(unittest.TestCase):
    def test_steps_do_what_the_words_say(self):
        refused = 0
        for seed in range(40):
            many, causes, rota, steps = world_of(seed, 90)
            line, plain = Line(many, causes, rota), PlainLine(many, causes, rota)
            for step in steps:
                before = all_told(line)
                told = told_or_refused(line, step)
                self.assertEqual(told, told_or_refused(plain, step))
                if isinstance(told, type):
                    self.assertEqual(all_told(line), before)
                    refused += 1
                self.assertEqual(line.log(), plain.log)
                self.assertEqual(line.waits(), len(plain.road))
                self.assertEqual(line.shown(), [(desk.deeds(), desk.sight()) for desk in plain.desks])
        self.assertGreater(refused, 100)

    def test_shown_is_what_stands_behind_the_log(self):
        for seed in range(40):
            many, causes, rota, steps = world_of(seed, 90)
            line = Line(many, causes, rota)
            for step in steps:
                told_or_refused(line, step)
            for number, (deeds, sight) in enumerate(line.shown()):
                own = [entry for entry in line.log() if entry[1] == number]
                self.assertEqual(deeds, sorted(entry[2] for entry in own if entry[0] in ("done", "heard")))
                beat = max([entry[2] for entry in own if entry[0] == "beat"], default=0)
                self.assertEqual(sight, sight_of(board_of(deeds), causes, beat))

    def test_no_opening_is_told_twice_and_none_is_missed(self):
        for seed in range(60):
            many, causes, rota, steps = world_of(seed, 90)
            line = Line(many, causes, rota)
            for step in steps:
                told_or_refused(line, step)
            line.do(("settle",))
            self.assertEqual(line.waits(), 0)
            for number in range(many):
                line.do(("beat", number, 900))
            self.assertEqual(line.shown(), [line.shown()[0]] * many)
            told = [entry[4] for entry in line.log() if entry[0] == "told"]
            self.assertEqual(len(told), len(set(told)))
            deeds = line.shown()[0][0]
            due = [row[1] for row in board_of(deeds) if row[4] is None
                   and not any(effect == row[0] and cause in dict.fromkeys(other[0] for other in board_of(deeds))
                               for cause, effect in causes)]
            self.assertEqual([opening for opening in due if opening not in told], [])


def logs():
    """(many, causes, rota, log) of lines behind many steps of all sorts."""
    for seed in range(30):
        many, causes, rota, steps = world_of(seed, 90)
        line = Line(many, causes, rota)
        for step in steps:
            told_or_refused(line, step)
        line.do(("settle",))
        for number in range(many):
            line.do(("beat", number, 900 + number))
            line.do(("ring", number, number, 1))
        yield many, causes, rota, line.log()


def otherwise(entry):
    """This entry told so that it can't be where it stands."""
    word, desk = entry[:2]
    if word == "beat":
        return (word, desk, 0)
    if word == "told":
        person, alarm, opening = entry[2:]
        return (word, desk, (person + 1) % 10, alarm, opening)
    (count, doer), what = entry[2]
    return (word, desk, ((count + 1, doer), what))


def next_of_desk(log, at):
    """The place of the next entry of the desk of this one, or None."""
    for later in range(at + 1, len(log)):
        if log[later][1] == log[at][1]:
            return later
    return None


class Judged(unittest.TestCase):
    def test_whole_and_cut_off_anywhere(self):
        kinds = {"done": 0, "heard": 0, "beat": 0, "told": 0}
        for many, causes, rota, log in logs():
            self.assertIsNone(judged(many, causes, rota, log))
            for end in range(len(log)):
                self.assertIsNone(judged(many, causes, rota, log[:end]))
            for entry in log:
                kinds[entry[0]] += 1
        self.assertGreater(min(kinds.values()), 100)

    def test_an_entry_told_twice(self):
        for many, causes, rota, log in logs():
            for at in range(0, len(log), 3):
                self.assertEqual(judged(many, causes, rota, log[:at + 1] + log[at:]), at + 1)

    def test_an_entry_told_otherwise(self):
        for many, causes, rota, log in logs():
            for at in range(0, len(log), 3):
                spoilt = log[:at] + [otherwise(log[at])] + log[at + 1:]
                self.assertEqual(judged(many, causes, rota, spoilt), at)

    def test_a_deed_left_out_is_missed_where_it_is_heard_at_the_latest(self):
        missed = 0
        for many, causes, rota, log in logs():
            for at, (word, _, deed) in [(at, entry) for at, entry in enumerate(log) if entry[0] == "done"]:
                heard = [later for later, entry in enumerate(log) if entry[0] == "heard" and entry[2] == deed]
                if heard:
                    told = judged(many, causes, rota, log[:at] + log[at + 1:])
                    self.assertIsNotNone(told)
                    self.assertIn(told, range(at, heard[0]))
                    missed += 1
        self.assertGreater(missed, 100)

    def test_a_hearing_left_out_is_missed_at_the_next_of_its_doer(self):
        missed = 0
        for many, causes, rota, log in logs():
            for at in [at for at, entry in enumerate(log) if entry[0] == "heard"]:
                desk, doer = log[at][1], log[at][2][0][1]
                behind = [later for later in range(at + 1, len(log))
                          if log[later][:2] == ("heard", desk) and log[later][2][0][1] == doer]
                if behind:
                    told = judged(many, causes, rota, log[:at] + log[at + 1:])
                    self.assertIsNotNone(told)
                    self.assertIn(told, range(at, behind[0]))
                    missed += 1
        self.assertGreater(missed, 100)

    def test_a_beat_left_out_lets_nothing_be_told(self):
        missed = 0
        for many, causes, rota, log in logs():
            for at in range(len(log) - 1):
                if log[at][0] == "beat" and log[at + 1][0] == "told":
                    self.assertEqual(judged(many, causes, rota, log[:at] + log[at + 1:]), at)
                    missed += 1
        self.assertGreater(missed, 100)

    def test_a_telling_left_out_is_missed_at_the_next_of_its_desk(self):
        missed = 0
        for many, causes, rota, log in logs():
            for at in [at for at, entry in enumerate(log) if entry[0] == "told"]:
                later = next_of_desk(log, at)
                if later is not None:
                    self.assertEqual(judged(many, causes, rota, log[:at] + log[at + 1:]), later - 1)
                    missed += 1
        self.assertGreater(missed, 100)


class NothingKept(unittest.TestCase):
    def line(self, causes):
        line = Line(2, causes, ROTA)
        for step in (("ring", 0, 3, 1), ("ring", 0, 4, 1), ("send", 0), ("beat", 0, 2)):
            line.do(step)
        return line

    def test_causes_handed_in_stay_and_may_be_changed_behind(self):
        causes = [(3, 4)]
        line = self.line(causes)
        self.assertEqual(causes, [(3, 4)])
        before = all_told(line)
        causes.clear()
        self.assertEqual(all_told(line), before)
        line.do(("settle",))
        self.assertEqual(line.shown()[1][1], [("open", 3, 1, None, 1)])

    def test_what_is_told_may_be_changed(self):
        line = self.line([])
        before = (line.shown(), line.log(), line.waits())
        shown, log = line.shown(), line.log()
        for deeds, sight in shown:
            deeds.append("x")
            sight.append("x")
            del deeds[0:1], sight[0:1]
        shown.clear()
        log.clear()
        self.assertEqual(all_told(line), before)
        told = line.do(("beat", 1, 3))
        told.append("x")
        self.assertEqual(line.log()[-1], ("beat", 1, 3))
        line.do(("settle",))
        self.assertEqual(line.shown()[0][0], [((1, 0), ("raise", 3, 1)), ((2, 0), ("raise", 4, 1))])

    def test_what_a_beat_told_may_be_changed(self):
        line = line_of(("ring", 0, 3, 1))
        told = line.do(("beat", 0, 1))
        told.clear()
        self.assertEqual(line.log()[1:], [("beat", 0, 1), ("told", 0, 0, 3, (1, 0))])
        self.assertEqual(line.do(("beat", 0, 2)), [])

    def test_asked_again_the_same_is_told(self):
        line = self.line([])
        for _ in range(3):
            self.assertEqual(all_told(line), all_told(line))

    def test_two_lines_know_nothing_of_each_other(self):
        first, second = self.line([]), Line(2, [], ROTA)
        self.assertEqual(all_told(second), ([([], []), ([], [])], [], 0))
        before = all_told(first)
        second.do(("clear", 1, 3))
        second.do(("settle",))
        self.assertEqual(all_told(first), before)


if __name__ == "__main__":
    unittest.main()
