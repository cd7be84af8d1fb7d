"""Promises [15] and [16] as far as it concerns steps, and [1] of plays."""

import random
import unittest

from alarmline.errors import BadCauses, BadDesk, BadRota, BadText, LineError
from alarmline.line import Line
from alarmline.plays import played, steps_read, steps_written

ROTA = ((0,), (1, 2), (3, 4, 5), (6, 7, 8, 9), (0, 5))

STEPS = [
    ("ring", 0, 3, 2), ("clear", 1, 29), ("hush", 4, 0, 999), ("take", 2, 3, 9), ("back", 2, 3, 0), ("beat", 0, 7),
    ("send", 0), ("carry", 12), ("lose", 0), ("twice", 3), ("settle",),
]

TEXT = (
    "ring 0 3 2\nclear 1 29\nhush 4 0 999\ntake 2 3 9\nback 2 3 0\nbeat 0 7\n"
    "send 0\ncarry 12\nlose 0\ntwice 3\nsettle"
)

MANY_NUMBERS = {
    "ring": 3, "clear": 2, "hush": 3, "take": 3, "back": 3, "beat": 2, "send": 1, "carry": 1, "lose": 1, "twice": 1,
    "settle": 0,
}


def all_told(line):
    return line.shown(), line.log(), line.waits()


def refused_line(text):
    """The line at which a text is refused; None if it is read."""
    try:
        steps_read(text)
    except BadText as error:
        return error.line
    return None


class Played(unittest.TestCase):
    def test_no_steps(self):
        told, line = played(3, [], ROTA, [])
        self.assertEqual(told, [])
        self.assertIsInstance(line, Line)
        self.assertEqual(all_told(line), ([([], [])] * 3, [], 0))

    def test_what_each_step_tells(self):
        answer = played(2, [], ROTA, [
            ("ring", 0, 3, 1), ("hush", 0, 4, 5), ("take", 1, 4, 5), ("back", 1, 4, 5), ("clear", 1, 5), ("beat", 1, 1),
            ("send", 0), ("twice", 0), ("lose", 0), ("carry", 1), ("beat", 0, 2), ("settle",), ("beat", 0, 3),
        ])
        self.assertIsInstance(answer, tuple)
        self.assertEqual(len(answer), 2)
        self.assertEqual(answer[0], [
            (1, 0), (2, 0), (1, 1), (2, 1), (3, 1), [], None, None, None, None, [(0, 3, (1, 0))], None, [],
        ])
        self.assertEqual(answer[1].waits(), 0)

    def test_a_beat_tells_a_list(self):
        told, line = played(2, [], ROTA, [("ring", 0, 3, 1), ("beat", 0, 4)])
        self.assertEqual(told, [(1, 0), [(0, 3, (1, 0))]])
        self.assertEqual(line.log()[1:], [("beat", 0, 4), ("told", 0, 0, 3, (1, 0))])

    def test_refused_steps_among_others_tell_no_and_change_nothing(self):
        told, line = played(2, [], ROTA, [
            ("ring", 2, 3, 1), ("ring", 0, 3, 1), ("ring", 0, 30, 1), ("ring", 0, 3, 6), ("clear", -1, 3),
            ("clear", 0, -1), ("hush", 0, 3, 1000), ("take", 0, 3, 10), ("back", 0, 3, -1), ("send", 2),
            ("beat", 0, 0), ("beat", 0, 1000), ("beat", 5, 7), ("beat", 0, 7), ("beat", 0, 7), ("clear", 0, 3),
        ])
        self.assertEqual(told, ["no", (1, 0)] + ["no"] * 11 + [[(0, 3, (1, 0))], "no", (2, 0)])
        done, line_of_done = played(2, [], ROTA, [("ring", 0, 3, 1), ("beat", 0, 7), ("clear", 0, 3)])
        self.assertEqual(all_told(line), all_told(line_of_done))
        self.assertEqual(done, [(1, 0), [(0, 3, (1, 0))], (2, 0)])

    def test_a_full_desk_tells_no(self):
        told, line = played(2, [], ROTA, [("clear", 0, 3)] * 202 + [("clear", 1, 3)])
        self.assertEqual(told[198:], [(199, 0), (200, 0), "no", "no", (1, 1)])
        self.assertEqual(len(line.shown()[0][0]), 200)

    def test_a_line_that_cant_be_is_refused(self):
        for many in (1, 6, True):
            self.assertRaises(BadDesk, played, many, [], ROTA, [])
        with self.assertRaises(BadCauses) as caught:
            played(2, [(1, 2), (2, 1)], ROTA, [("settle",)])
        self.assertEqual(caught.exception.at, 1)
        self.assertRaises(BadRota, played, 2, [], ROTA[:4], [])
        self.assertRaises(BadDesk, played, 6, [(1, 1)], (), [])
        self.assertRaises(BadCauses, played, 2, [(1, 1)], (), [])


def any_step(chance):
    """A step of any sort, now and then beyond its ranges."""
    numbers = (chance.randrange(-1, 5), chance.randrange(6), chance.randrange(6))
    word = chance.choice(sorted(MANY_NUMBERS))
    return (word,) + numbers[:MANY_NUMBERS[word]]


def told_by(line, step):
    try:
        return line.do(step)
    except LineError:
        return "no"


class AsDo(unittest.TestCase):
    def test_the_line_stands_and_goes_on_as_one_that_did_the_same(self):
        refused = 0
        for seed in range(40):
            chance = random.Random(seed)
            many = chance.randrange(2, 6)
            steps = [any_step(chance) for _ in range(60)]
            other = Line(many, [(1, 2), (2, 4)], ROTA)
            told, line = played(many, [(1, 2), (2, 4)], ROTA, steps)
            self.assertEqual(told, [told_by(other, step) for step in steps])
            self.assertEqual(all_told(line), all_told(other))
            refused += told.count("no")
            for _ in range(30):
                step = any_step(chance)
                self.assertEqual(told_by(line, step), told_by(other, step))
                self.assertEqual(all_told(line), all_told(other))
        self.assertGreater(refused, 200)

    def test_the_line_goes_on(self):
        _, line = played(2, [], ROTA, [("ring", 0, 3, 1), ("send", 0)])
        self.assertEqual(line.waits(), 1)
        line.do(("carry", 1))
        self.assertEqual(line.do(("clear", 1, 3)), (2, 1))
        self.assertRaises(BadDesk, line.do, ("clear", 2, 3))


class NothingKept(unittest.TestCase):
    def test_the_lists_handed_in_stay_and_may_be_changed_behind(self):
        steps, causes = [("ring", 0, 3, 1), ("ring", 0, 4, 1), ("ring", 9, 4, 1)], [(3, 4)]
        told, line = played(2, causes, ROTA, steps)
        self.assertEqual(steps, [("ring", 0, 3, 1), ("ring", 0, 4, 1), ("ring", 9, 4, 1)])
        self.assertEqual(causes, [(3, 4)])
        before = all_told(line)
        steps.clear()
        causes.clear()
        self.assertEqual(told, [(1, 0), (2, 0), "no"])
        self.assertEqual(all_told(line), before)
        self.assertEqual(line.shown()[0][1], [("open", 3, 1, None, 1)])

    def test_what_is_told_may_be_changed_inner_lists_too(self):
        steps = [("ring", 0, 3, 1), ("beat", 0, 1)]
        told, line = played(2, [], ROTA, steps)
        before = all_told(line)
        told[1].clear()
        told.clear()
        self.assertEqual(all_told(line), before)
        self.assertEqual(line.do(("beat", 0, 2)), [])
        self.assertEqual(played(2, [], ROTA, steps)[0], [(1, 0), [(0, 3, (1, 0))]])

    def test_played_again_the_same_is_told(self):
        first, second = played(2, [], ROTA, STEPS), played(2, [], ROTA, STEPS)
        self.assertEqual(first[0], second[0])
        self.assertEqual(all_told(first[1]), all_told(second[1]))

    def test_texts(self):
        steps = list(STEPS)
        steps_written(steps)
        self.assertEqual(steps, STEPS)
        steps_read(TEXT).clear()
        steps_read("").append("x")
        self.assertEqual(steps_read(TEXT), STEPS)
        self.assertEqual(steps_read(""), [])


class StepsWritten(unittest.TestCase):
    def test_each_step(self):
        self.assertEqual(steps_written(STEPS), TEXT)

    def test_none_are_the_empty_text(self):
        self.assertEqual(steps_written([]), "")

    def test_one_has_no_line_end(self):
        for step, row in zip(STEPS, TEXT.split("\n")):
            self.assertEqual(steps_written([step]), row)

    def test_steps_stay_in_their_order_and_may_stand_twice(self):
        self.assertEqual(steps_written([("send", 1), ("send", 0), ("send", 1)]), "send 1\nsend 0\nsend 1")


class StepsRead(unittest.TestCase):
    def test_each_step(self):
        told = steps_read(TEXT)
        self.assertEqual(told, STEPS)
        self.assertIsInstance(told, list)
        for step in told:
            self.assertIsInstance(step, tuple)
            for number in step[1:]:
                self.assertIs(number.__class__, int)

    def test_the_empty_text(self):
        self.assertEqual(steps_read(""), [])

    def test_each_count_of_numbers(self):
        for word, many in MANY_NUMBERS.items():
            for count in range(6):
                row = " ".join([word] + ["1"] * count)
                with self.subTest(row):
                    if count == many:
                        self.assertEqual(steps_read(row), [(word,) + (1,) * count])
                    else:
                        self.assertEqual(refused_line(row), 0)

    def test_numbers_beyond_their_ranges_are_read(self):
        text = "ring 5 30 6\nclear 9999 9999\nhush 9 99 1000\ntake 5 30 10\nback 0 30 99\nbeat 5 1000\nsend 9999"
        self.assertEqual(steps_read(text), [
            ("ring", 5, 30, 6), ("clear", 9999, 9999), ("hush", 9, 99, 1000), ("take", 5, 30, 10),
            ("back", 0, 30, 99), ("beat", 5, 1000), ("send", 9999),
        ])
        self.assertEqual(played(5, [], ROTA, steps_read(text))[0], ["no"] * 7)

    def test_figures(self):
        for number in ("0", "9", "10", "99", "100", "1000", "9999", "1001"):
            self.assertEqual(steps_read(f"carry {number}"), [("carry", int(number))])

    def test_numbers_that_are_none(self):
        for number in ("", "00", "01", "0000", "0001", "09999", "10000", "99999", "00000", "123456", "+1", "-1", "-0",
                       "1.", "1.0", "x", "1x", "x1", "0x1", "1_0", "None", "True", "'1'", "send"):
            for row in (f"carry {number}", f"ring {number} 1 1", f"ring 1 {number} 1", f"ring 1 1 {number}",
                        f"beat 0 {number}"):
                with self.subTest(row):
                    self.assertEqual(refused_line(row), 0)
                    self.assertEqual(refused_line(f"settle\n{row}\nsettle"), 1)

    def test_words_that_are_none(self):
        for word in ("raise", "Ring", "RING", "rings", "rin", "", "ring,", "1", "no"):
            with self.subTest(word):
                self.assertEqual(refused_line(f"{word} 1 1 1"), 0)
                self.assertEqual(refused_line(word), None if word == "" else 0)
        for row in ("Settle", "settl", "settled", "1 send", "send1", "1 0 raise 3 2"):
            with self.subTest(row):
                self.assertEqual(refused_line(row), 0)

    def test_blanks_where_none_belong(self):
        for row in (" settle", "settle ", " ", "  ", " send 1", "send 1 ", "send  1", "send ", "ring 1  1 1",
                    "ring 1 1  1", "ring 1 1 1 ", "ring 1 1 ", "ring  1 1", "send 1  "):
            with self.subTest(row):
                self.assertEqual(refused_line(row), 0)
                self.assertEqual(refused_line(f"settle\n{row}"), 1)

    def test_empty_lines(self):
        for text, line in (("\n", 0), ("\n\n", 0), ("settle\n", 1), ("\nsettle", 0), (f"{TEXT}\n", 11),
                           ("settle\n\nsettle", 1), ("settle\nsettle\n\n", 2)):
            with self.subTest(text):
                self.assertEqual(refused_line(text), line)

    def test_the_first_bad_line_is_told(self):
        rows = TEXT.split("\n")
        for at in range(len(rows) + 1):
            for wrong in ("x", "", "carry 01", "carry 10000", "send"):
                text = "\n".join(rows[:at] + [wrong] + rows[at:] + ["y"])
                self.assertEqual(refused_line(text), at)

    def test_a_refusal_is_a_line_error(self):
        with self.assertRaises(LineError) as caught:
            steps_read("x")
        self.assertIs(caught.exception.__class__, BadText)

    def test_written_and_read_again(self):
        for seed in range(30):
            chance = random.Random(seed)
            steps = []
            for _ in range(chance.randrange(40)):
                word = chance.choice(sorted(MANY_NUMBERS))
                numbers = [chance.randrange(chance.choice((10, 100, 1000, 10000))) for _ in range(MANY_NUMBERS[word])]
                steps.append((word,) + tuple(numbers))
            text = steps_written(steps)
            self.assertEqual(steps_read(text), steps)
            self.assertEqual(steps_written(steps_read(text)), text)


if __name__ == "__main__":
    unittest.main()
