"""Promise [14], and [1] as far as it concerns judging."""

import random
import unittest

from alarmline.boards import board_of
from alarmline.desk import Desk
from alarmline.errors import BadCauses, BadDesk, BadLog, BadRota, LineError
from alarmline.judging import judged

ROTA = ((0,), (1, 2), (3, 4, 5), (6, 7, 8, 9), (5, 0))

RAISE = ((1, 0), ("raise", 3, 1))
CLEAR = ((2, 0), ("clear", 3))
# Desk 0 of two: person 0 sits there, and level 1 is due to nobody else.
TOLD = ("told", 0, 0, 3, (1, 0))
GOOD = [("done", 0, RAISE), ("heard", 1, RAISE), ("beat", 0, 5), TOLD, ("done", 0, CLEAR), ("heard", 1, CLEAR)]


def judge(log, many=2, causes=(), rota=ROTA):
    return judged(many, list(causes), rota, log)


def refused_at(log):
    """Tell `at` of the refusal, or None if there is none."""
    try:
        judge(log)
    except BadLog as refusal:
        return refusal.at
    return None


class Let(unittest.TestCase):
    def test_the_empty_log(self):
        for many in range(2, 6):
            self.assertIsNone(judge([], many))

    def test_a_log_whole_and_cut_off_anywhere(self):
        for end in range(len(GOOD) + 1):
            self.assertIsNone(judge(GOOD[:end]))

    def test_each_kind_of_deed_is_let(self):
        whats = (("raise", 3, 1), ("hush", 3, 9), ("take", 3, 4), ("back", 3, 4), ("clear", 3))
        deeds = [((count, 1), what) for count, what in enumerate(whats, start=1)]
        log = [("done", 1, deed) for deed in deeds] + [("heard", 0, deed) for deed in deeds]
        self.assertIsNone(judge(log))

    def test_what_is_to_be_told_yet_at_the_end_is_let(self):
        self.assertIsNone(judge(GOOD[:3]))

    def test_deeds_may_never_be_heard(self):
        self.assertIsNone(judge([("done", 0, RAISE), ("done", 0, CLEAR), ("beat", 1, 9)]))


class Done(unittest.TestCase):
    def test_a_stamp_of_another_desk(self):
        self.assertEqual(judge([("done", 1, RAISE)]), 0)
        self.assertEqual(judge([("done", 0, RAISE), ("done", 1, CLEAR)]), 1)

    def test_a_desk_that_there_isnt(self):
        for many in range(2, 5):
            for desk in range(5):
                deed = ((1, desk), ("clear", 3))
                self.assertEqual(judge([("done", desk, deed)], many), None if desk < many else 0)

    def test_a_count_that_is_not_the_next(self):
        self.assertEqual(judge([("done", 0, CLEAR)]), 0)
        self.assertEqual(judge([("done", 0, RAISE), ("done", 0, RAISE)]), 1)
        self.assertEqual(judge([("done", 0, RAISE), ("done", 0, ((3, 0), ("clear", 3)))]), 1)

    def test_a_count_is_behind_all_that_the_desk_heard(self):
        log = [("done", 0, RAISE), ("done", 0, CLEAR), ("heard", 1, RAISE)]
        self.assertIsNone(judge(log + [("done", 1, ((2, 1), ("clear", 3)))]))
        self.assertEqual(judge(log + [("done", 1, ((3, 1), ("clear", 3)))]), 3)
        self.assertEqual(judge(log + [("done", 1, ((1, 1), ("clear", 3)))]), 3)
        log += [("heard", 1, CLEAR)]
        self.assertIsNone(judge(log + [("done", 1, ((3, 1), ("clear", 3)))]))
        self.assertEqual(judge(log + [("done", 1, ((2, 1), ("clear", 3)))]), 4)

    def test_two_hundred_at_a_desk_and_one_more(self):
        log = [("done", 0, ((count, 0), ("clear", 3))) for count in range(1, 202)]
        self.assertIsNone(judge(log[:200]))
        self.assertEqual(judge(log), 200)
        others = [("heard", 1, entry[2]) for entry in log[:200]]
        more = [("done", 1, ((count, 1), ("clear", 3))) for count in range(201, 401)]
        self.assertIsNone(judge(log[:200] + others + more))


class Heard(unittest.TestCase):
    def test_ahead_of_the_doing(self):
        self.assertEqual(judge([("heard", 1, RAISE), ("done", 0, RAISE)]), 0)

    def test_of_itself(self):
        self.assertEqual(judge([("done", 0, RAISE), ("heard", 0, RAISE)]), 1)

    def test_twice(self):
        self.assertEqual(judge([("done", 0, RAISE), ("heard", 1, RAISE), ("heard", 1, RAISE)]), 2)

    def test_one_left_out(self):
        self.assertEqual(judge([("done", 0, RAISE), ("done", 0, CLEAR), ("heard", 1, CLEAR)]), 2)

    def test_exchanged(self):
        log = [("done", 0, RAISE), ("done", 0, CLEAR), ("heard", 1, CLEAR), ("heard", 1, RAISE)]
        self.assertEqual(judge(log), 2)

    def test_another_deed_of_that_stamp(self):
        for what in (("raise", 3, 2), ("raise", 4, 1), ("clear", 3), ("take", 3, 1)):
            self.assertEqual(judge([("done", 0, RAISE), ("heard", 1, ((1, 0), what))]), 1)

    def test_that_deed_of_another_stamp(self):
        for stamp in ((2, 0), (1, 2), (1, 1), (1, 3)):
            log = [("done", 0, RAISE), ("heard", 1, (stamp, ("raise", 3, 1)))]
            self.assertEqual(judge(log, 3), 1)

    def test_at_a_desk_that_there_isnt(self):
        self.assertEqual(judge([("done", 0, RAISE), ("heard", 2, RAISE)]), 1)
        self.assertIsNone(judge([("done", 0, RAISE), ("heard", 2, RAISE)], 3))

    def test_of_a_doer_that_there_isnt(self):
        self.assertEqual(judge([("heard", 0, ((1, 4), ("clear", 3)))]), 0)

    def test_the_deeds_of_several_doers_in_any_turn(self):
        mine, yours = ((1, 0), ("clear", 3)), ((1, 1), ("clear", 4))
        log = [("done", 0, mine), ("done", 1, yours)]
        self.assertIsNone(judge(log + [("heard", 2, yours), ("heard", 2, mine)], 3))
        self.assertIsNone(judge(log + [("heard", 2, mine), ("heard", 2, yours)], 3))

    def test_only_the_doers_own_deeds_must_be_ahead(self):
        answer = ((2, 1), ("clear", 3))
        log = [("done", 0, RAISE), ("heard", 1, RAISE), ("done", 1, answer), ("heard", 2, answer)]
        self.assertIsNone(judge(log, 3))


class Beats(unittest.TestCase):
    def test_later_beats(self):
        self.assertIsNone(judge([("beat", 0, 1), ("beat", 0, 2), ("beat", 0, 999)]))

    def test_0_is_not_later_than_the_first(self):
        self.assertEqual(judge([("beat", 0, 0)]), 0)

    def test_a_beat_that_is_not_later(self):
        self.assertEqual(judge([("beat", 0, 7), ("beat", 0, 7)]), 1)
        self.assertEqual(judge([("beat", 0, 7), ("beat", 0, 6)]), 1)

    def test_each_desk_has_its_own(self):
        self.assertIsNone(judge([("beat", 0, 7), ("beat", 1, 7), ("beat", 0, 9), ("beat", 1, 8)]))

    def test_a_desk_that_there_isnt(self):
        self.assertEqual(judge([("beat", 1, 7), ("beat", 2, 7)]), 1)


class Told(unittest.TestCase):
    def setUp(self):
        # Desk 0 of two, to which all openings are due: alarms 3, 5, 8.
        self.rota = ((0,), (2,), (4,), (6,), (8,))
        self.done = [
            ("done", 0, ((1, 0), ("raise", 8, 1))),
            ("done", 0, ((2, 0), ("raise", 3, 3))),
            ("done", 0, ((3, 0), ("raise", 5, 5))),
        ]
        self.told = [("told", 0, 4, 3, (2, 0)), ("told", 0, 8, 5, (3, 0)), ("told", 0, 0, 8, (1, 0))]
        self.log = self.done + [("beat", 0, 9)] + self.told

    def judge(self, log, many=2):
        return judged(many, [], self.rota, log)

    def test_all_in_turn(self):
        for end in range(len(self.log) + 1):
            self.assertIsNone(self.judge(self.log[:end]))

    def test_ahead_of_the_beat(self):
        self.assertEqual(self.judge(self.done + self.told[:1] + [("beat", 0, 9)]), 3)

    def test_out_of_turn(self):
        first, second, third = self.told
        self.assertEqual(self.judge(self.log[:4] + [second, first, third]), 4)
        self.assertEqual(self.judge(self.log[:4] + [first, third, second]), 5)

    def test_twice(self):
        self.assertEqual(self.judge(self.log + self.told[2:]), 7)
        self.assertEqual(self.judge(self.log[:5] + self.told[:1]), 5)

    def test_again_at_a_later_beat(self):
        self.assertEqual(self.judge(self.log + [("beat", 0, 10)] + self.told[:1]), 8)

    def test_left_out(self):
        self.assertEqual(self.judge(self.log[:4] + self.told[1:]), 4)
        self.assertEqual(self.judge(self.log[:6] + [("beat", 0, 10)]), 6)

    def test_anything_else_of_this_desk_ahead_of_it(self):
        other = ((1, 1), ("clear", 0))
        for entry in (("done", 0, ((4, 0), ("clear", 0))), ("heard", 0, other), ("beat", 0, 10)):
            with self.subTest(entry):
                log = [("done", 1, other)] + self.log
                self.assertIsNone(self.judge(log + [entry]))
                for end in (5, 6, 7):
                    self.assertEqual(self.judge(log[:end] + [entry]), end)

    def test_entries_of_another_desk_may_stand_between(self):
        other = [("heard", 1, entry[2]) for entry in self.done] + [("beat", 1, 4)]
        log = self.log[:4]
        for told, entry in zip(self.told, other):
            log += [entry, told]
        self.assertIsNone(self.judge(log + other[3:]))

    def test_of_another_desk_person_alarm_opening(self):
        for entry in (
            ("told", 1, 4, 3, (2, 0)), ("told", 2, 4, 3, (2, 0)), ("told", 0, 2, 3, (2, 0)),
            ("told", 0, 4, 5, (2, 0)), ("told", 0, 4, 3, (3, 0)), ("told", 0, 4, 3, (2, 1)),
        ):
            with self.subTest(entry):
                self.assertEqual(self.judge(self.log[:4] + [entry] + self.log[5:]), 4)

    def test_by_the_desk_where_the_person_sits(self):
        # Person 3 sits at desk 1 of two, desk 0 of three.
        rota = ((3,),) * 5
        log = [("done", 0, RAISE), ("heard", 1, RAISE), ("beat", 0, 1), ("beat", 1, 1)]
        for many, desk in ((2, 1), (3, 0), (4, 3)):
            for teller in range(2):
                expected = None if teller == desk else 4
                told = ("told", teller, 3, 3, (1, 0))
                # With three desks desk 0 is to tell at once, yet may wait.
                self.assertEqual(judged(many, [], rota, log + [told]), expected)

    def test_nothing_is_told_of_a_taken_hushed_hidden_or_closed_one(self):
        log = [("done", 0, RAISE)]
        for what in (("take", 3, 9), ("hush", 3, 6), ("clear", 3)):
            behind = log + [("done", 0, ((2, 0), what)), ("beat", 0, 5)]
            self.assertEqual(judge(behind + [TOLD]), 3)
            self.assertIsNone(judge(behind + [("beat", 0, 6)]))
        hidden = log + [("done", 0, ((2, 0), ("raise", 4, 1))), ("beat", 0, 5)]
        self.assertEqual(judge(hidden + [TOLD], causes=[(4, 3)]), 3)
        self.assertIsNone(judge(hidden + [("told", 0, 0, 4, (2, 0))], causes=[(4, 3)]))

    def test_a_hush_that_ends(self):
        log = [("done", 0, RAISE), ("done", 0, ((2, 0), ("hush", 3, 6))), ("beat", 0, 5), ("beat", 0, 6), TOLD]
        self.assertIsNone(judge(log))
        self.assertEqual(judge(log[:4] + [("beat", 0, 7)]), 4)

    def test_a_new_opening(self):
        again = ((3, 0), ("raise", 3, 1))
        log = GOOD[:5] + [("done", 0, again), ("beat", 0, 6)]
        self.assertIsNone(judge(log + [("told", 0, 0, 3, (3, 0))]))
        self.assertEqual(judge(log + [TOLD]), 7)
        self.assertEqual(judge(log + [("beat", 0, 7)]), 7)


DEED = ((1, 0), ("raise", 3, 1))

# An entry with a hole for the number in question, and both ends of its range.
RANGES = (
    ("desk of done", lambda n: ("done", n, DEED), 0, 4),
    ("desk of heard", lambda n: ("heard", n, DEED), 0, 4),
    ("desk of beat", lambda n: ("beat", n, 7), 0, 4),
    ("desk of told", lambda n: ("told", n, 0, 3, (1, 0)), 0, 4),
    ("count of done", lambda n: ("done", 0, ((n, 0), ("clear", 3))), 1, 9999),
    ("desk of the stamp of done", lambda n: ("done", 0, ((1, n), ("clear", 3))), 0, 4),
    ("alarm of done", lambda n: ("done", 0, ((1, 0), ("clear", n))), 0, 29),
    ("level of done", lambda n: ("done", 0, ((1, 0), ("raise", 3, n))), 1, 5),
    ("beat of done", lambda n: ("done", 0, ((1, 0), ("hush", 3, n))), 0, 999),
    ("person of done", lambda n: ("done", 0, ((1, 0), ("take", 3, n))), 0, 9),
    ("count of heard", lambda n: ("heard", 1, ((n, 0), ("clear", 3))), 1, 9999),
    ("desk of the stamp of heard", lambda n: ("heard", 1, ((1, n), ("clear", 3))), 0, 4),
    ("person of heard", lambda n: ("heard", 1, ((1, 0), ("back", 3, n))), 0, 9),
    ("beat", lambda n: ("beat", 0, n), 0, 999),
    ("person of told", lambda n: ("told", 0, n, 3, (1, 0)), 0, 9),
    ("alarm of told", lambda n: ("told", 0, 0, n, (1, 0)), 0, 29),
    ("count of told", lambda n: ("told", 0, 0, 3, (n, 0)), 1, 9999),
    ("desk of the stamp of told", lambda n: ("told", 0, 0, 3, (1, n)), 0, 4),
)

NO_ENTRIES = (
    # a word that is none
    ("did", 0, DEED), ("Done", 0, DEED), ("", 0, DEED), ("raise", 3, 1), (0, 0, DEED), (("done",), 0, DEED),
    # too few or too many parts
    (), ("done",), ("done", 0), ("done", 0, DEED, 1), ("heard", 0), ("heard", 0, DEED, DEED), ("beat", 0),
    ("beat", 5), ("beat", 0, 7, 7), ("told", 0), ("told", 0, 0, 3), ("told", 0, 0, 3, (1, 0), 1),
    # parts of another kind
    ("done", 0, 7), ("done", 0, (1, 0)), ("done", DEED, 0), ("done", 0, "raise"), ("done", "0", DEED),
    ("done", 0, ((1, 0), ("ring", 3, 1))), ("done", 0, ((1, 0), ("raise", 3))), ("heard", 1, ()),
    ("beat", 0, "7"), ("beat", 0, (7,)), ("beat", 0, DEED), ("told", 0, 0, 3, 1), ("told", 0, 0, 3, "1"),
    ("told", 0, 0, 3, ()), ("told", 0, 0, 3, (1,)), ("told", 0, 0, 3, (1, 0, 0)), ("told", 0, 0, 3, DEED),
    ("told", 0, (0,), 3, (1, 0)), ("told", 0, 0, "3", (1, 0)), DEED,
    # True and False are no numbers
    ("done", False, DEED), ("heard", True, DEED), ("beat", 0, True), ("beat", False, 7),
    ("told", 0, False, 3, (1, 0)), ("told", 0, 0, True, (1, 0)), ("told", 0, 0, 3, (True, 0)),
)


class Entries(unittest.TestCase):
    def test_both_ends_are_let_by(self):
        for name, entry, low, high in RANGES:
            for number in (low, high):
                with self.subTest(name, number=number):
                    self.assertIsNone(refused_at(GOOD + [entry(number)]))

    def test_one_beyond_each_end_is_refused(self):
        for name, entry, low, high in RANGES:
            for number in (low - 1, high + 1):
                with self.subTest(name, number=number):
                    self.assertEqual(refused_at(GOOD + [entry(number)]), len(GOOD))
                    self.assertEqual(refused_at([entry(number)] + GOOD), 0)

    def test_what_is_no_entry_is_refused(self):
        for entry in NO_ENTRIES:
            with self.subTest(entry):
                self.assertEqual(refused_at([entry]), 0)
                self.assertEqual(refused_at(GOOD + [entry]), len(GOOD))

    def test_of_two_wrong_ones_the_first_is_told(self):
        for first, second in ((("did",), ("beat", 0, 1000)), (("beat", 0, 1000), ("did",))):
            self.assertEqual(refused_at(GOOD + [first, second]), len(GOOD))

    def test_no_entry_is_refused_though_one_ahead_cant_be(self):
        self.assertEqual(refused_at([("beat", 0, 0), ("beat", 0, 1000)]), 1)

    def test_a_refusal_is_a_line_error(self):
        self.assertRaises(LineError, judge, [()])

    def test_two_thousand_and_one_more(self):
        log = [("beat", desk, number) for number in range(1, 1000) for desk in range(2)]
        log += [("done", 0, RAISE), ("done", 0, CLEAR)]
        self.assertEqual(len(log), 2000)
        self.assertIsNone(judge(log))
        self.assertEqual(refused_at(log + [("heard", 1, RAISE)]), 2000)
        self.assertEqual(refused_at(log + [("heard", 1, RAISE)] * 5), 2000)
        self.assertEqual(judge(log[:1999] + [("done", 0, RAISE)]), 1999)
        self.assertEqual(refused_at(log[:1999] + [()]), 1999)
        self.assertEqual(refused_at(log[:1000] + [()] + log[1000:]), 1000)


class Refusals(unittest.TestCase):
    def test_how_many_desks(self):
        for many in range(2, 6):
            self.assertIsNone(judge([], many))
        for many in (1, 6, 0, -1, True):
            self.assertRaises(BadDesk, judge, [], many)

    def test_causes(self):
        with self.assertRaises(BadCauses) as caught:
            judge([], causes=[(1, 2), (2, 3), (3, 1)])
        self.assertEqual(caught.exception.at, 2)

    def test_rotas(self):
        for rota in ((), ROTA[:4], ROTA + ((1,),), ((),) + ROTA[1:], ((1, 2, 3, 4, 5),) + ROTA[1:],
                     ROTA[:4] + ((10,),), ROTA[:4] + ((-1,),)):
            with self.subTest(rota):
                self.assertRaises(BadRota, judge, [], rota=rota)

    def test_what_is_handed_in_first_is_refused_first(self):
        self.assertRaises(BadDesk, judged, 6, [(1, 1)], (), [()])
        self.assertRaises(BadDesk, judged, 6, [], ROTA, [()])
        self.assertRaises(BadCauses, judged, 2, [(1, 1)], (), [()])
        self.assertRaises(BadCauses, judged, 2, [(1, 1)], ROTA, [()])
        self.assertRaises(BadRota, judged, 2, [], (), [()])
        self.assertRaises(BadLog, judged, 2, [], ROTA, [()])


class Recorder:
    """Desks that do, hear, and are told beats by a seed, and the log of it all."""

    def __init__(self, seed):
        self.chance = random.Random(seed)
        self.many = self.chance.randrange(2, 6)
        order = self.chance.sample(range(9), 9)
        pairs = [sorted(self.chance.sample(range(9), 2)) for _ in range(self.chance.randrange(7))]
        self.causes = [(order[low], order[high]) for low, high in pairs]
        self.rota = tuple(
            tuple(self.chance.sample(range(10), self.chance.randrange(1, 5))) for _ in range(5)
        )
        self.desks = [Desk(number, self.many, self.causes, self.rota) for number in range(self.many)]
        self.beats = [0] * self.many
        self.road = []
        self.log = []

    def do_deed(self, number):
        alarm = self.chance.randrange(9)
        desk = self.desks[number]
        turn = self.chance.choice(("ring", "ring", "ring", "clear", "hush", "take", "back"))
        if turn == "ring":
            stamp = desk.ring(alarm, self.chance.randrange(1, 6))
        elif turn == "clear":
            stamp = desk.clear(alarm)
        elif turn == "hush":
            stamp = desk.hush(alarm, self.chance.randrange(30))
        else:
            stamp = getattr(desk, turn)(alarm, self.chance.randrange(1, 3))
        self.log.append(("done", number, (stamp, dict(desk.deeds())[stamp])))

    def hear(self, at):
        number, letter = self.road[at]
        if self.chance.random() < 0.8:
            del self.road[at]
        ahead = self.desks[number].deeds()
        self.road += self.desks[number].hear(letter)
        self.log += [("heard", number, deed) for deed in self.desks[number].deeds() if deed not in ahead]

    def tell_beat(self, number):
        self.beats[number] += self.chance.randrange(1, 3)
        self.log.append(("beat", number, self.beats[number]))
        self.log += [("told", number) + told for told in self.desks[number].beat(self.beats[number])]

    def step(self):
        number = self.chance.randrange(self.many)
        turn = self.chance.randrange(9)
        if turn < 3:
            self.do_deed(number)
        elif turn < 5:
            self.tell_beat(number)
        elif turn == 5:
            self.road += self.desks[number].letters()
        elif self.road:
            self.hear(self.chance.randrange(len(self.road)))


def plain_due(causes, rota, many, desk, known, beat, told):
    """What a desk is to tell at a beat, word for word."""
    board = board_of(known)
    awake = [row[0] for row in board if row[3] <= beat]
    due = []
    for alarm, opening, _, till, taker in board:
        persons = rota[dict(known)[opening][2] - 1]
        person = persons[opening[0] % len(persons)]
        hidden = any(effect == alarm and cause in awake for cause, effect in causes)
        if alarm in awake and not hidden and taker is None and person % many == desk and opening not in told:
            due.append((person, alarm, opening))
    return due


def plain_lets(world, ahead, entry):
    """[14] word for word, from all entries ahead each time."""
    word, desk = entry[:2]
    if desk >= world.many:
        return False
    own = [other for other in ahead if other[1] == desk]
    known = [other[2] for other in own if other[0] in ("done", "heard")]
    beats = [at for at, other in enumerate(own) if other[0] == "beat"]
    last = own[beats[-1]][2] if beats else 0
    yet = []
    if beats and all(other[0] == "told" for other in own[beats[-1] + 1:]):
        told = [other[4] for other in own[:beats[-1]] if other[0] == "told"]
        yet = plain_due(world.causes, world.rota, world.many, desk, known, last, told)[len(own) - beats[-1] - 1:]
    if word == "told" or yet:
        return word == "told" and yet[:1] == [entry[2:]]
    if word == "beat":
        return entry[2] > last
    stamp = entry[2][0]
    if word == "done":
        return stamp == (max([deed[0][0] for deed in known], default=0) + 1, desk)
    done = [other[2] for other in ahead if other[:2] == ("done", stamp[1])]
    heard = [deed for deed in known if deed[0][1] == stamp[1]]
    return stamp[1] != desk and done[len(heard):][:1] == [entry[2]]


def plain_judged(world, log):
    for at, entry in enumerate(log):
        if not plain_lets(world, log[:at], entry):
            return at
    return None


def changed_entry(chance, entry):
    """An entry that is like this one but for one number."""
    word, desk = entry[:2]
    turn = chance.randrange(4)
    if turn == 0:
        return (word, (desk + 1) % 5) + entry[2:]
    if word == "beat":
        return (word, desk, max(0, entry[2] + chance.choice((-2, -1, 1))))
    if word == "told":
        person, alarm, (count, of) = entry[2:]
        return chance.choice((
            (word, desk, (person + 1) % 10, alarm, (count, of)), (word, desk, person, (alarm + 1) % 30, (count, of)),
            (word, desk, person, alarm, (count + 1, of)), (word, desk, person, alarm, (count, (of + 1) % 5)),
        ))
    (count, of), what = entry[2]
    if turn == 1:
        return (word, desk, ((count + 1, of), what))
    if turn == 2:
        return (word, desk, ((count, (of + 1) % 5), what))
    return (word, desk, ((count, of), (what[0], what[1] + 1) + what[2:]))


def spoilt(chance, log):
    """A log with one entry twice, left out, exchanged, moved or changed."""
    at = chance.randrange(len(log))
    other = chance.randrange(len(log))
    turn = chance.randrange(5)
    if turn == 0:
        return log[:at] + log[at:at + 1] + log[at:]
    if turn == 1:
        return log[:at] + log[at + 1:]
    if turn == 2:
        rest = log[:at] + log[at + 1:]
        return rest[:other] + log[at:at + 1] + rest[other:]
    if turn == 3:
        exchanged = list(log)
        exchanged[at], exchanged[other] = log[other], log[at]
        return exchanged
    return log[:at] + [changed_entry(chance, log[at])] + log[at + 1:]


class Chance(unittest.TestCase):
    def worlds(self, steps):
        for seed in range(40):
            world = Recorder(seed)
            for _ in range(steps):
                world.step()
            yield world

    def test_logs_of_desks_are_let_whole_and_cut_off_anywhere(self):
        kinds = {"done": 0, "heard": 0, "beat": 0, "told": 0}
        for world in self.worlds(90):
            self.assertIsNone(judged(world.many, world.causes, world.rota, world.log))
            for end in range(0, len(world.log), 7):
                self.assertIsNone(judged(world.many, world.causes, world.rota, world.log[:end]))
            for entry in world.log:
                kinds[entry[0]] += 1
        self.assertGreater(min(kinds.values()), 100)

    def test_spoilt_logs_are_judged_as_the_words_say(self):
        can, cannot = 0, 0
        for world in self.worlds(50):
            for _ in range(25):
                log = spoilt(world.chance, world.log)
                told = plain_judged(world, log)
                self.assertEqual(judged(world.many, world.causes, world.rota, log), told)
                can += told is None
                cannot += told is not None
        self.assertGreater(can, 50)
        self.assertGreater(cannot, 400)


class NothingKept(unittest.TestCase):
    def test_what_is_handed_in_is_the_same_behind_the_call(self):
        log, causes = list(GOOD), [(1, 2), (2, 3)]
        judged(2, causes, ROTA, log)
        self.assertEqual((log, causes), (GOOD, [(1, 2), (2, 3)]))

    def test_asked_again_the_same_is_told(self):
        log = GOOD + [("beat", 0, 5)]
        for _ in range(3):
            self.assertEqual(judge(log), 6)
            self.assertIsNone(judge(log[:6]))

    def test_a_refusal_changes_nothing(self):
        log = GOOD + [()]
        self.assertRaises(BadLog, judge, log)
        self.assertEqual(log, GOOD + [()])
        self.assertIsNone(judge(log[:6]))


if __name__ == "__main__":
    unittest.main()
