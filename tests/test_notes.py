"""Promise [16] as far as it concerns deeds, and [1] of written and read."""

import random
import unittest

from alarmline.boards import board_of
from alarmline.errors import BadDeeds, BadText, LineError
from alarmline.notes import read, written

DEEDS = [
    ((1, 0), ("raise", 3, 2)),
    ((1, 4), ("hush", 0, 999)),
    ((2, 1), ("take", 29, 0)),
    ((10, 0), ("back", 29, 9)),
    ((9999, 4), ("clear", 12)),
]

TEXT = "1 0 raise 3 2\n1 4 hush 0 999\n2 1 take 29 0\n10 0 back 29 9\n9999 4 clear 12"

GOOD = "1 0 raise 3 2"


def refused_line(text):
    """The line at which a text is refused; None if it is read."""
    try:
        read(text)
    except BadText as error:
        return error.line
    return None


class Written(unittest.TestCase):
    def test_each_deed(self):
        self.assertEqual(written(DEEDS), TEXT)

    def test_none_are_the_empty_text(self):
        self.assertEqual(written([]), "")

    def test_one_has_no_line_end(self):
        self.assertEqual(written(DEEDS[:1]), GOOD)

    def test_deeds_in_any_order(self):
        for seed in range(20):
            deeds = random.Random(seed).sample(DEEDS, len(DEEDS))
            self.assertEqual(written(deeds), TEXT)

    def test_stamps_ascend_as_numbers_by_count_then_by_desk(self):
        deeds = [((10, 0), ("clear", 1)), ((9, 4), ("clear", 1)), ((9, 3), ("clear", 2)), ((100, 0), ("clear", 1))]
        self.assertEqual(written(deeds), "9 3 clear 2\n9 4 clear 1\n10 0 clear 1\n100 0 clear 1")

    def test_what_is_no_deed_is_refused_with_its_place(self):
        for wrong in (((0, 0), ("clear", 1)), ((10000, 0), ("clear", 1)), ((1, 5), ("clear", 1)),
                      ((5, 0), ("clear", 30)), ((5, 0), ("raise", 3, 6)), ((5, 0), ("ring", 3, 1)),
                      ((5, 0), ("clear", True)), (), DEEDS[0]):
            with self.subTest(wrong), self.assertRaises(BadDeeds) as caught:
                written(DEEDS + [wrong, ()])
            self.assertEqual(caught.exception.at, 5)

    def test_a_thousand_and_one_more(self):
        deeds = [((count, 0), ("clear", 3)) for count in range(1, 1002)]
        self.assertEqual(read(written(deeds[:1000])), deeds[:1000])
        with self.assertRaises(BadDeeds) as caught:
            written(deeds)
        self.assertEqual(caught.exception.at, 1000)


class Read(unittest.TestCase):
    def test_each_deed(self):
        self.assertEqual(read(TEXT), DEEDS)

    def test_the_empty_text(self):
        self.assertEqual(read(""), [])

    def test_both_ends_are_let_by(self):
        for text in ("1 0 raise 0 1", "9999 4 raise 29 5", "1 0 clear 0", "1 0 clear 29", "1 0 hush 0 0",
                     "1 0 hush 29 999", "1 0 take 0 0", "1 0 take 0 9", "1 0 back 0 0", "1 0 back 0 9"):
            with self.subTest(text):
                self.assertEqual(written(read(text)), text)

    def test_beyond_each_end_is_refused(self):
        for row in ("0 0 raise 3 2", "10000 0 raise 3 2", "1 5 raise 3 2", "1 0 raise 30 2", "1 0 raise 3 0",
                    "1 0 raise 3 6", "1 0 clear 30", "1 0 hush 3 1000", "1 0 hush 30 10", "1 0 take 3 10",
                    "1 0 take 30 1", "1 0 back 3 10", "1 0 back 30 1"):
            with self.subTest(row):
                self.assertEqual(refused_line(row), 0)

    def test_numbers_that_are_none(self):
        for number in ("", "03", "00", "003", "+3", "-3", "3.", "3.0", "x", "3x", "x3", "0x3", "1_0", "None", "True"):
            for row in (f"{number} 0 raise 3 2", f"9 {number} raise 3 2", f"9 0 raise {number} 2",
                        f"9 0 raise 3 {number}", f"9 0 clear {number}"):
                with self.subTest(row):
                    self.assertEqual(refused_line(row), 0)
                    self.assertEqual(refused_line(f"{GOOD}\n{row}\n10 0 clear 3"), 1)

    def test_a_needless_0(self):
        for row in ("01 0 raise 3 2", "1 00 raise 3 2", "1 0 raise 03 2", "1 0 raise 3 02", "1 0 hush 3 00",
                    "1 0 hush 3 010", "0001 0 raise 3 2"):
            with self.subTest(row):
                self.assertEqual(refused_line(row), 0)

    def test_five_figures(self):
        for row in ("10000 0 clear 3", "00001 0 clear 3", "1 0 hush 3 10000", "1 0 clear 00003"):
            self.assertEqual(refused_line(row), 0)

    def test_blanks_where_none_belong(self):
        for row in (" 1 0 raise 3 2", "1 0 raise 3 2 ", "1  0 raise 3 2", "1 0  raise 3 2", "1 0 raise  3 2",
                    "1 0 raise 3  2", " ", "  ", "1 0 clear 3 ", "1 0 clear  3", "1 0 raise 3 "):
            with self.subTest(row):
                self.assertEqual(refused_line(row), 0)
                self.assertEqual(refused_line(f"{GOOD}\n{row}"), 1)

    def test_words_that_are_none(self):
        for word in ("ring", "Raise", "RAISE", "raised", "rais", "", "0", "3", "settle", "raise.", "'raise'"):
            with self.subTest(word):
                self.assertEqual(refused_line(f"1 0 {word} 3 2"), 0)

    def test_too_few_and_too_many_parts(self):
        for row in ("1", "1 0", "1 0 raise", "1 0 raise 3", "1 0 raise 3 2 1", "1 0 clear", "1 0 clear 3 2",
                    "1 0 hush 3", "1 0 hush 3 2 1", "1 0 take 3", "1 0 take 3 2 1", "1 0 back 3", "1 0 back 3 2 1",
                    "raise 3 2", "1 raise 3 2", "1 0 0 raise 3 2", "raise 1 0 3 2", "clear 3", "1 0 3 2"):
            with self.subTest(row):
                self.assertEqual(refused_line(row), 0)

    def test_empty_lines(self):
        for text, line in (("\n", 0), ("\n\n", 0), (f"{GOOD}\n", 1), (f"\n{GOOD}", 0), (f"{TEXT}\n", 5),
                           (f"{GOOD}\n\n2 0 clear 3", 1), (f"{GOOD}\n2 0 clear 3\n\n", 2)):
            with self.subTest(text):
                self.assertEqual(refused_line(text), line)

    def test_other_signs_are_no_line_ends(self):
        self.assertEqual(refused_line(f"{GOOD};2 0 clear 3"), 0)
        self.assertEqual(refused_line(f"{GOOD} 2 0 clear 3"), 0)

    def test_stamps_that_do_not_rise(self):
        for first, second in (("1 0", "1 0"), ("2 0", "1 0"), ("2 0", "1 4"), ("2 1", "2 0"), ("10 0", "9 0"),
                              ("9999 4", "1 0")):
            with self.subTest(first=first, second=second):
                text = f"{first} clear 3\n{second} clear 4"
                self.assertEqual(refused_line(text), 1)
                self.assertEqual(refused_line(f"{text}\nx"), 1)

    def test_stamps_that_rise(self):
        for first, second in (("1 0", "1 1"), ("1 0", "2 0"), ("1 4", "2 0"), ("9 0", "10 0"), ("1 0", "9999 4")):
            with self.subTest(first=first, second=second):
                self.assertIsNone(refused_line(f"{first} clear 3\n{second} clear 4"))

    def test_a_stamp_that_stands_twice_but_not_side_by_side(self):
        self.assertEqual(refused_line("1 0 clear 3\n2 0 clear 3\n1 0 clear 3"), 2)
        self.assertEqual(refused_line("1 0 clear 3\n3 0 clear 3\n2 0 clear 3"), 2)

    def test_the_first_bad_line_is_told(self):
        rows = TEXT.split("\n")
        for at in range(len(rows)):
            for wrong in ("x", "", "1 0 raise 30 2"):
                text = "\n".join(rows[:at] + [wrong] + rows[at:] + ["y"])
                self.assertEqual(refused_line(text), at)
        self.assertEqual(refused_line("2 0 clear 3\nx\n1 0 clear 3"), 1)
        self.assertEqual(refused_line("2 0 clear 3\n1 0 clear 3\nx"), 1)

    def test_a_refusal_is_a_line_error(self):
        with self.assertRaises(LineError) as caught:
            read("x")
        self.assertIs(caught.exception.__class__, BadText)


def any_deeds(seed):
    """Deeds in any order, by a seed."""
    chance = random.Random(seed)
    stamps = [(1 + at // 5, at % 5) for at in chance.sample(range(9999 * 5), chance.randrange(60))]
    rest = {
        "raise": lambda: (chance.randrange(1, 6),), "clear": lambda: (), "hush": lambda: (chance.randrange(1000),),
        "take": lambda: (chance.randrange(10),), "back": lambda: (chance.randrange(10),),
    }
    deeds = []
    for stamp in stamps:
        word = chance.choice(sorted(rest))
        deeds.append((stamp, (word, chance.randrange(30)) + rest[word]()))
    return deeds


class Chance(unittest.TestCase):
    def test_written_and_read_again(self):
        for seed in range(30):
            deeds = any_deeds(seed)
            text = written(deeds)
            self.assertEqual(read(text), sorted(deeds))
            self.assertEqual(written(read(text)), text)
            self.assertEqual(board_of(read(text)), board_of(deeds))

    def test_what_is_read_is_written_as_it_was(self):
        chance = random.Random(7)
        read_ones = 0
        for _ in range(4000):
            text = list(written(any_deeds(chance.randrange(50))[:chance.randrange(4)]))
            for _ in range(chance.randrange(1, 3)):
                at = chance.randrange(len(text) + 1)
                text[at:at + chance.randrange(2)] = chance.choice(["", "0", "1", "7", " ", "\n", "-", "a"])
            text = "".join(text)
            if refused_line(text) is None:
                self.assertEqual(written(read(text)), text)
                read_ones += 1
        self.assertGreater(read_ones, 100)


class NothingKept(unittest.TestCase):
    def test_the_list_handed_in_is_the_same_behind_the_call(self):
        deeds = DEEDS[::-1]
        written(deeds)
        self.assertEqual(deeds, DEEDS[::-1])
        wrong = DEEDS[::-1] + [()]
        self.assertRaises(BadDeeds, written, wrong)
        self.assertEqual(wrong, DEEDS[::-1] + [()])

    def test_what_is_told_may_be_changed(self):
        read(TEXT).clear()
        read("").append("x")
        self.assertEqual(read(TEXT), DEEDS)
        self.assertEqual(read(""), [])

    def test_kinds(self):
        self.assertIsInstance(written(DEEDS), str)
        self.assertIsInstance(read(TEXT), list)
        for stamp, what in read(TEXT):
            self.assertIsInstance(stamp, tuple)
            self.assertIsInstance(what, tuple)
            for number in stamp + what[1:]:
                self.assertIs(number.__class__, int)

    def test_a_refusal_changes_nothing(self):
        self.assertEqual(refused_line("x"), 0)
        self.assertEqual(read(TEXT), DEEDS)


if __name__ == "__main__":
    unittest.main()
