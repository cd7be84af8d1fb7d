"""Promises [10] and [11]: beats, what is told of them, and rounds."""

import random
import unittest

from alarmline.desk import Desk
from alarmline.errors import BadBeat
from alarmline.seeing import where_of

# For each level persons of unlike number, so that places and levels tell apart.
ROTA = ((0,), (1, 2), (3, 4, 5), (6, 7, 8, 9), (5, 0))


def due(stamp, level, rota=ROTA):
    """[10] word for word: the person whom the opening of a raise is due to."""
    persons = rota[level - 1]
    return persons[stamp[0] % len(persons)]


def desks_of(many, causes=(), rota=ROTA):
    return [Desk(number, many, list(causes), rota) for number in range(many)]


def all_hear(desks, doer):
    """Let all other desks hear what a desk has to tell, once."""
    for number, letter in doer.letters():
        desks[number].hear(letter)


class Beats(unittest.TestCase):
    def setUp(self):
        self.desk = Desk(0, 2, [], ROTA)

    def test_0_is_the_first_beat_so_it_is_not_later(self):
        self.assertRaises(BadBeat, self.desk.beat, 0)
        self.assertEqual(self.desk.beat(1), [])

    def test_beats_that_are_none(self):
        for number in (-1, 1000, True, False):
            with self.subTest(number):
                self.assertRaises(BadBeat, self.desk.beat, number)

    def test_the_last_beat(self):
        self.assertEqual(self.desk.beat(999), [])
        for number in (999, 1000, 998, 1):
            self.assertRaises(BadBeat, self.desk.beat, number)

    def test_a_beat_that_is_not_later_changes_nothing(self):
        self.desk.ring(3, 1)
        self.desk.hush(3, 20)
        self.desk.beat(19)
        before = (self.desk.deeds(), self.desk.board(), self.desk.sight(), self.desk.letters())
        self.assertEqual(before[2], [("hushed", 3, 20)])
        for number in (19, 18, 0, -1, 1000):
            self.assertRaises(BadBeat, self.desk.beat, number)
            self.assertEqual((self.desk.deeds(), self.desk.board(), self.desk.sight(), self.desk.letters()), before)
        self.assertEqual(self.desk.beat(20), [(0, 3, (1, 0))])

    def test_a_refused_beat_does_not_use_up_what_is_to_be_told(self):
        self.desk.beat(5)
        self.desk.ring(3, 1)
        self.assertRaises(BadBeat, self.desk.beat, 5)
        self.assertEqual(self.desk.beat(6), [(0, 3, (1, 0))])

    def test_beats_may_leave_some_out(self):
        for number in (1, 2, 10, 500, 999):
            self.assertEqual(self.desk.beat(number), [])

    def test_each_desk_has_its_own_beat(self):
        other = Desk(1, 2, [], ROTA)
        self.desk.beat(50)
        self.assertEqual(other.beat(1), [])


class Due(unittest.TestCase):
    def test_each_level_count_and_many(self):
        for many in range(2, 6):
            for level in range(1, 6):
                for count in range(1, 14):
                    desks = desks_of(many)
                    for _ in range(count - 1):
                        desks[0].clear(9)
                    stamp = desks[0].ring(3, level)
                    self.assertEqual(stamp[0], count)
                    all_hear(desks, desks[0])
                    person = due(stamp, level)
                    for number, desk in enumerate(desks):
                        told = [(person, 3, stamp)] if number == person % many else []
                        self.assertEqual(desk.beat(1), told)

    def test_by_hand(self):
        # Level 4, count 2: the person at place 2 of (6, 7, 8, 9), who sits at desk 8 % 3.
        desks = desks_of(3)
        desks[1].clear(0)
        self.assertEqual(desks[1].ring(7, 4), (2, 1))
        all_hear(desks, desks[1])
        self.assertEqual([desk.beat(1) for desk in desks], [[], [], [(8, 7, (2, 1))]])

    def test_the_level_is_that_of_the_raise_which_opened(self):
        rota = ((0,), (2,), (4,), (6,), (8,))
        desk = Desk(0, 2, [], rota)
        desk.ring(3, 2)
        desk.ring(3, 5)
        self.assertEqual(desk.sight(), [("open", 3, 5, None, 0)])
        self.assertEqual(desk.beat(1), [(2, 3, (1, 0))])

    def test_the_place_is_by_the_count_of_the_opening_not_of_a_later_raise(self):
        rota = ((0, 2, 4, 6),) * 5
        desk = Desk(0, 2, [], rota)
        desk.ring(3, 1)
        for _ in range(2):
            desk.ring(3, 1)
        self.assertEqual(desk.beat(1), [(2, 3, (1, 0))])

    def test_a_person_twice_has_two_places(self):
        desk = Desk(0, 2, [], ((2, 2, 4),) * 5)
        for alarm in range(6):
            desk.ring(alarm, 1)
        self.assertEqual([person for person, _, _ in desk.beat(1)], [2, 4, 2, 2, 4, 2])

    def test_told_by_alarms(self):
        desk = Desk(0, 2, [], ((0,),) * 5)
        stamps = {alarm: desk.ring(alarm, 1 + alarm % 5) for alarm in (9, 29, 4, 0, 17)}
        self.assertEqual(desk.beat(1), [(0, alarm, stamps[alarm]) for alarm in (0, 4, 9, 17, 29)])

    def test_those_in_a_flood_are_told_too(self):
        desk = Desk(0, 2, [], ((0,),) * 5)
        for alarm in range(30):
            desk.ring(alarm, 1)
        self.assertEqual(desk.beat(1), [(0, alarm, (alarm + 1, 0)) for alarm in range(30)])


class Once(unittest.TestCase):
    def setUp(self):
        self.desk = Desk(0, 2, [(1, 3)], ((0,),) * 5)

    def test_an_opening_is_told_once(self):
        self.desk.ring(3, 1)
        self.assertEqual(self.desk.beat(1), [(0, 3, (1, 0))])
        for number in range(2, 9):
            self.assertEqual(self.desk.beat(number), [])

    def test_not_again_behind_a_take_and_a_back(self):
        self.desk.ring(3, 1)
        self.assertEqual(self.desk.beat(1), [(0, 3, (1, 0))])
        self.desk.take(3, 4)
        self.assertEqual(self.desk.beat(2), [])
        self.desk.back(3, 4)
        self.assertEqual(self.desk.beat(3), [])

    def test_not_again_behind_a_hush_that_ends(self):
        self.desk.ring(3, 1)
        self.assertEqual(self.desk.beat(1), [(0, 3, (1, 0))])
        self.desk.hush(3, 5)
        self.assertEqual(self.desk.beat(4), [])
        self.assertEqual(self.desk.beat(5), [])
        self.assertEqual(self.desk.beat(6), [])

    def test_not_again_behind_another_raise(self):
        self.desk.ring(3, 1)
        self.assertEqual(self.desk.beat(1), [(0, 3, (1, 0))])
        self.desk.ring(3, 5)
        self.assertEqual(self.desk.beat(2), [])

    def test_not_again_behind_a_cause_that_came_and_went(self):
        self.desk.ring(3, 1)
        self.assertEqual(self.desk.beat(1), [(0, 3, (1, 0))])
        self.desk.ring(1, 1)
        self.assertEqual(self.desk.beat(2), [(0, 1, (2, 0))])
        self.desk.clear(1)
        self.assertEqual(self.desk.beat(3), [])

    def test_a_taken_one_is_told_when_it_is_handed_back(self):
        self.desk.ring(3, 1)
        self.desk.take(3, 0)
        self.assertEqual(self.desk.beat(1), [])
        self.desk.back(3, 0)
        self.assertEqual(self.desk.beat(2), [(0, 3, (1, 0))])

    def test_a_hushed_one_is_told_when_the_hush_ends(self):
        self.desk.ring(3, 1)
        self.desk.hush(3, 5)
        self.assertEqual(self.desk.beat(4), [])
        self.assertEqual(self.desk.beat(5), [(0, 3, (1, 0))])

    def test_a_hidden_one_is_told_when_its_cause_is_gone(self):
        self.desk.ring(3, 1)
        self.desk.ring(1, 1)
        self.assertEqual(self.desk.beat(1), [(0, 1, (2, 0))])
        self.desk.hush(1, 3)
        self.assertEqual(self.desk.beat(2), [(0, 3, (1, 0))])
        self.assertEqual(self.desk.beat(3), [])

    def test_a_closed_one_is_not_told(self):
        self.desk.ring(3, 1)
        self.desk.clear(3)
        self.assertEqual(self.desk.beat(1), [])

    def test_a_clear_and_a_raise_again_are_a_new_opening(self):
        self.desk.ring(3, 1)
        self.assertEqual(self.desk.beat(1), [(0, 3, (1, 0))])
        self.desk.clear(3)
        self.desk.ring(3, 1)
        self.assertEqual(self.desk.beat(2), [(0, 3, (3, 0))])
        self.assertEqual(self.desk.beat(3), [])

    def test_an_elder_raise_that_is_heard_late_is_another_opening(self):
        other = Desk(1, 2, [], ((0,),) * 5)
        other.ring(3, 1)
        self.desk.clear(9)
        self.assertEqual(self.desk.ring(3, 1), (2, 0))
        self.assertEqual(self.desk.beat(1), [(0, 3, (2, 0))])
        self.desk.hear(dict(other.letters())[0])
        self.assertEqual(self.desk.beat(2), [(0, 3, (1, 1))])

    def test_an_opening_that_is_one_again_is_not_told_again(self):
        # Desk 2 clears between two raises, but desk 0 hears that last.
        first, second, third = desks_of(3, rota=((0,),) * 5)
        second.ring(3, 1)
        third.hear(dict(second.letters())[2])
        self.assertEqual(third.clear(3), (2, 2))
        first.clear(9)
        first.clear(9)
        self.assertEqual(first.ring(3, 1), (3, 0))
        self.assertEqual(first.beat(1), [(0, 3, (3, 0))])
        first.hear(dict(second.letters())[0])
        self.assertEqual(first.beat(2), [(0, 3, (1, 1))])
        first.hear(dict(third.letters())[0])
        self.assertEqual(first.board(), [(3, (3, 0), 1, 0, None)])
        self.assertEqual(first.beat(3), [])

    def test_a_list_that_was_told_may_be_changed(self):
        self.desk.ring(3, 1)
        told = self.desk.beat(1)
        self.assertIsInstance(told, list)
        told.clear()
        self.assertEqual(self.desk.beat(2), [])


class World:
    """Desks, the letters under way, and all that was told, driven by a seed."""

    def __init__(self, seed, many):
        self.chance = random.Random(seed)
        order = self.chance.sample(range(12), 12)
        pairs = [sorted(self.chance.sample(range(12), 2)) for _ in range(self.chance.randrange(9))]
        self.causes = [(order[low], order[high]) for low, high in pairs]
        self.rota = tuple(
            tuple(self.chance.sample(range(10), self.chance.randrange(1, 5))) for _ in range(5)
        )
        self.desks = desks_of(many, self.causes, self.rota)
        self.road = []
        self.beats = [0] * many
        self.told = []

    def do_deed(self, desk):
        alarm = self.chance.randrange(12)
        turn = self.chance.randrange(8)
        if turn < 4:
            desk.ring(alarm, self.chance.randrange(1, 6))
        elif turn == 4:
            desk.clear(alarm)
        elif turn == 5:
            desk.hush(alarm, self.chance.randrange(60))
        elif turn == 6:
            desk.take(alarm, self.chance.randrange(3))
        else:
            desk.back(alarm, self.chance.randrange(3))

    def tell_beat(self, number, beat):
        told = self.desks[number].beat(beat)
        self.beats[number] = beat
        self.told += [(number,) + row for row in told]

    def step(self):
        number = self.chance.randrange(len(self.desks))
        turn = self.chance.randrange(10)
        if turn < 4:
            self.do_deed(self.desks[number])
        elif turn < 6:
            self.tell_beat(number, self.beats[number] + self.chance.randrange(1, 4))
        elif turn < 7:
            self.road += self.desks[number].letters()
        elif self.road:
            at = self.chance.randrange(len(self.road))
            to, letter = self.road[at]
            if turn < 9:
                del self.road[at]
            # A letter is lost, or heard and perhaps left to be heard again.
            if self.chance.random() < 0.6:
                self.road += self.desks[to].hear(letter)

    def round(self, first):
        """One round; tell how many letters it told. `first`: which of those under way is heard next."""
        many = 0
        for desk in self.desks:
            under_way = desk.letters()
            while under_way:
                many += 1
                to, letter = under_way.pop(first(len(under_way)))
                under_way += self.desks[to].hear(letter)
        return many


class Rounds(unittest.TestCase):
    def worlds(self):
        """Worlds behind a muddle, of two to five desks, and which letter is heard next, in three ways."""
        for seed in range(60):
            world = World(seed, 2 + seed % 4)
            for _ in range(world.chance.randrange(5, 120)):
                world.step()
            ways = (lambda many: 0, lambda many: many - 1, world.chance.randrange)
            yield world, ways[seed % 3]

    def test_as_many_rounds_as_there_are_desks_then_no_letter(self):
        told_any = 0
        for world, first in self.worlds():
            told_any += sum([world.round(first) for _ in world.desks])
            self.assertEqual(world.round(first), 0)
            self.assertEqual([desk.letters() for desk in world.desks], [[] for _ in world.desks])
        self.assertGreater(told_any, 100)

    def test_rounds_from_untouched_desks_tell_nothing(self):
        for many in range(2, 6):
            self.assertEqual(World(1, many).round(lambda many: 0), 0)

    def test_behind_rounds_all_know_and_show_the_same(self):
        for world, first in self.worlds():
            done = {deed for desk in world.desks for deed in desk.deeds()}
            for _ in world.desks:
                world.round(first)
            beat = max(world.beats) + 1
            for number, desk in enumerate(world.desks):
                world.tell_beat(number, beat)
                self.assertEqual(desk.deeds(), sorted(done))
                self.assertEqual(desk.board(), world.desks[0].board())
                self.assertEqual(desk.sight(), world.desks[0].sight())

    def test_late_letters_behind_the_rounds_change_nothing(self):
        for world, first in self.worlds():
            for _ in world.desks:
                world.round(first)
            before = [desk.deeds() for desk in world.desks]
            while world.road:
                to, letter = world.road.pop()
                world.road += world.desks[to].hear(letter)
            self.assertEqual([desk.deeds() for desk in world.desks], before)
            self.assertEqual(world.round(first), 0)

    def test_each_shown_opening_is_told_once_by_one_desk_to_whom_it_is_due(self):
        told_last = 0
        for world, first in self.worlds():
            for _ in world.desks:
                world.round(first)
            ahead = list(world.told)
            beat = max(world.beats) + 1
            for number in range(len(world.desks)):
                world.tell_beat(number, beat)
            self.check_told(world)
            told = [row for row in world.told if row not in ahead]
            self.assertEqual(sorted(told, key=lambda row: row[2]), self.to_be_told(world, ahead, beat))
            told_last += len(told)
        self.assertGreater(told_last, 50)

    def to_be_told(self, world, ahead, beat):
        """What is to be told by all desks together, from the words of [5], [10] and [11]."""
        told_openings = [row[3] for row in ahead]
        desk = world.desks[0]
        levels = {stamp: what[2] for stamp, what in desk.deeds() if what[0] == "raise"}
        board = desk.board()
        awake = [row[0] for row in board if row[3] <= beat]
        rows = []
        for alarm, opening, _, till, taker in board:
            hidden = any(effect == alarm and cause in awake for cause, effect in world.causes)
            if till <= beat and not hidden and taker is None and opening not in told_openings:
                person = due(opening, levels[opening], world.rota)
                rows.append((person % len(world.desks), person, alarm, opening))
                self.assertIsNotNone(where_of(board, world.causes, beat, alarm))
        return rows

    def check_told(self, world):
        """No opening was ever told twice, nor to another one."""
        openings = [opening for _, _, _, opening in world.told]
        self.assertEqual(len(openings), len(set(openings)))
        raises = dict(world.desks[0].deeds())
        for number, person, alarm, opening in world.told:
            word, of_alarm, level = raises[opening]
            self.assertEqual((word, of_alarm), ("raise", alarm))
            self.assertEqual(person, due(opening, level, world.rota))
            self.assertEqual(number, person % len(world.desks))


if __name__ == "__main__":
    unittest.main()
