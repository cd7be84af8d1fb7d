"""The interface of the whole program, and what [1] promises over all of it."""

import copy
import importlib
import inspect
import unittest

from alarmline.boards import board_of
from alarmline.desk import Desk
from alarmline.errors import (
    BadAlarm, BadBeat, BadCauses, BadDeeds, BadDesk, BadLevel, BadLog, BadPerson, BadRota, BadText, Full, LineError,
)
from alarmline.judging import judged
from alarmline.line import Line
from alarmline.notes import read, written
from alarmline.plays import played, steps_read, steps_written
from alarmline.seeing import sight_of, where_of

ROTA = ((0,), (1, 2), (3, 4, 5), (6, 7, 8, 9), (0, 5))
CAUSES = [(3, 4), (4, 5), (3, 4)]
DEEDS = [((2, 1), ("take", 3, 7)), ((1, 0), ("raise", 3, 2)), ((1, 1), ("raise", 4, 2)), ((3, 0), ("hush", 9, 1))]
LOG = [("done", 0, ((1, 0), ("raise", 3, 1))), ("heard", 1, ((1, 0), ("raise", 3, 1))), ("beat", 0, 1),
       ("told", 0, 0, 3, (1, 0))]
STEPS = [("ring", 0, 3, 1), ("ring", 0, 4, 1), ("send", 0), ("carry", 1), ("beat", 0, 1), ("ring", 9, 0, 0),
         ("settle",), ("beat", 1, 1)]

FUNCTIONS = {
    "boards": {"board_of": "deeds"},
    "seeing": {"sight_of": "board causes beat", "where_of": "board causes beat alarm"},
    "judging": {"judged": "many causes rota log"},
    "plays": {"played": "many causes rota steps", "steps_written": "steps", "steps_read": "text"},
    "notes": {"written": "deeds", "read": "text"},
}

CLASSES = {
    ("desk", "Desk", "number many causes rota"): {
        "ring": "alarm level", "clear": "alarm", "hush": "alarm beat", "take": "alarm person", "back": "alarm person",
        "deeds": "", "board": "", "sight": "", "letters": "", "hear": "letter", "beat": "number", "where": "alarm",
    },
    ("line", "Line", "many causes rota"): {"do": "step", "shown": "", "log": "", "waits": ""},
}


def parameters(function):
    return list(inspect.signature(function).parameters)


class Interface(unittest.TestCase):
    def test_functions(self):
        for file, functions in FUNCTIONS.items():
            module = importlib.import_module(f"alarmline.{file}")
            for name, arguments in functions.items():
                with self.subTest(name):
                    function = vars(module)[name]
                    self.assertEqual(parameters(function), arguments.split())
                    self.assertEqual(function.__module__, f"alarmline.{file}")

    def test_classes_define_each_method_themselves(self):
        for (file, name, arguments), methods in CLASSES.items():
            kind = vars(importlib.import_module(f"alarmline.{file}"))[name]
            self.assertEqual(parameters(kind), arguments.split())
            for method, rest in methods.items():
                with self.subTest(name, method=method):
                    self.assertEqual(parameters(vars(kind)[method]), ["self"] + rest.split())


def made_desk():
    desk = Desk(0, 2, CAUSES, ROTA)
    desk.ring(3, 1)
    desk.ring(9, 2)
    desk.beat(3)
    return desk


def made_line():
    return played(2, CAUSES, ROTA, STEPS)[1]


# What is asked without a deed between, and so tells the same each time.
QUESTIONS = {
    "board_of": (board_of, [DEEDS]),
    "sight_of": (sight_of, [board_of(DEEDS), CAUSES, 2]),
    "where_of": (where_of, [board_of(DEEDS), CAUSES, 2, 4]),
    "judged": (judged, [2, CAUSES, ROTA, LOG]),
    "judged at 4": (judged, [2, CAUSES, ROTA, LOG + LOG[:1]]),
    "played": (lambda *given: played(*given)[0], [2, CAUSES, ROTA, STEPS]),
    "written": (written, [DEEDS]),
    "read": (read, [written(DEEDS)]),
    "steps_written": (steps_written, [STEPS]),
    "steps_read": (steps_read, [steps_written(STEPS)]),
    "desk.deeds": (made_desk().deeds, []),
    "desk.board": (made_desk().board, []),
    "desk.sight": (made_desk().sight, []),
    "desk.letters": (made_desk().letters, []),
    "desk.where": (made_desk().where, [9]),
    "line.shown": (made_line().shown, []),
    "line.log": (made_line().log, []),
    "line.waits": (made_line().waits, []),
}

REFUSALS = (
    (BadDeeds, board_of, [DEEDS + [()]]),
    (BadCauses, sight_of, [board_of(DEEDS), CAUSES + [(5, 3)], 2]),
    (BadBeat, sight_of, [board_of(DEEDS), CAUSES, 1000]),
    (BadAlarm, where_of, [board_of(DEEDS), CAUSES, 2, 30]),
    (BadDesk, judged, [6, CAUSES, ROTA, LOG]),
    (BadLog, judged, [2, CAUSES, ROTA, LOG + [()]]),
    (BadRota, played, [2, CAUSES, ROTA[:4], STEPS]),
    (BadDeeds, written, [DEEDS + DEEDS]),
    (BadText, read, ["1 0 raise 3 2\n"]),
    (BadText, steps_read, ["settle\n"]),
    (BadCauses, Desk, [0, 2, CAUSES + [(5, 3)], ROTA]),
    (BadCauses, Line, [2, CAUSES + [(5, 3)], ROTA]),
)


def spoil(told):
    """Change a list that was told, and all lists in it."""
    if isinstance(told, (list, tuple)):
        for part in told:
            spoil(part)
    if isinstance(told, list):
        told.append("more")
        del told[0]


class OverAll(unittest.TestCase):
    def test_what_is_handed_in_is_not_changed(self):
        for name, (ask, given) in QUESTIONS.items():
            with self.subTest(name):
                before = copy.deepcopy(given)
                ask(*given)
                self.assertEqual(given, before)

    def test_what_is_handed_in_is_not_changed_by_a_refusal(self):
        for error, ask, given in REFUSALS:
            with self.subTest(error=error, given=given):
                before = copy.deepcopy(given)
                with self.assertRaises(error) as caught:
                    ask(*given)
                self.assertIs(caught.exception.__class__, error)
                self.assertIsInstance(caught.exception, LineError)
                self.assertEqual(given, before)

    def test_asked_again_the_same_is_told_though_the_answer_was_changed(self):
        for name, (ask, given) in QUESTIONS.items():
            with self.subTest(name):
                first = copy.deepcopy(ask(*given))
                spoil(ask(*given))
                self.assertEqual(ask(*given), first)

    def test_an_answer_does_not_change_with_what_was_handed_in(self):
        for name, (ask, given) in QUESTIONS.items():
            with self.subTest(name):
                own = copy.deepcopy(given)
                told = ask(*own)
                before = copy.deepcopy(told)
                spoil(own)
                self.assertEqual(told, before)

    def test_an_answer_does_not_change_with_what_is_done_behind_it(self):
        desk, line = made_desk(), made_line()
        told = [desk.deeds(), desk.board(), desk.sight(), desk.letters(), line.shown(), line.log()]
        before = copy.deepcopy(told)
        desk.clear(3)
        desk.beat(9)
        for step in (("clear", 0, 3), ("send", 0), ("carry", 9), ("settle",), ("beat", 1, 500)):
            line.do(step)
        self.assertEqual(told, before)

    def test_true_and_false_are_no_numbers(self):
        desk, line = made_desk(), made_line()
        for number in (True, False):
            for error, ask in (
                (BadDeeds, lambda: board_of([((number, 0), ("clear", 3))])),
                (BadDeeds, lambda: board_of([((1, number), ("clear", 3))])),
                (BadDeeds, lambda: written([((1, 0), ("clear", number))])),
                (BadCauses, lambda: sight_of([], [(number, 3)], 0)),
                (BadBeat, lambda: sight_of([], [], number)),
                (BadAlarm, lambda: where_of([], [], 0, number)),
                (BadDesk, lambda: Desk(number, 2, [], ROTA)),
                (BadDesk, lambda: Line(number, [], ROTA)),
                (BadDesk, lambda: judged(number, [], ROTA, [])),
                (BadDesk, lambda: played(number, [], ROTA, [])),
                (BadRota, lambda: Line(2, [], ((number,),) + ROTA[1:])),
                (BadLog, lambda: judged(2, [], ROTA, [("beat", 0, number)])),
                (BadLog, lambda: judged(2, [], ROTA, [("beat", number, 5)])),
                (BadAlarm, lambda: desk.clear(number)),
                (BadLevel, lambda: desk.ring(3, number)),
                (BadBeat, lambda: desk.hush(3, number)),
                (BadPerson, lambda: desk.take(3, number)),
                (BadPerson, lambda: desk.back(3, number)),
                (BadBeat, lambda: made_line().do(("beat", 0, number))),
                (BadDesk, lambda: line.do(("send", number))),
                (BadDesk, lambda: line.do(("clear", number, 3))),
                (BadAlarm, lambda: line.do(("clear", 0, number))),
                (BadBeat, lambda: Line(2, [], ROTA).do(("beat", 0, number))),
            ):
                self.assertRaises(error, ask)

    def test_full_behind_all(self):
        line = played(2, [], ROTA, [("clear", 0, 3)] * 200)[1]
        for error, step in (
            (Full, ("ring", 0, 3, 1)), (BadDesk, ("ring", 2, 30, 6)), (BadAlarm, ("ring", 0, 30, 6)),
            (BadLevel, ("ring", 0, 3, 6)), (BadBeat, ("hush", 0, 3, 1000)), (BadPerson, ("take", 0, 3, 10)),
            (BadPerson, ("back", 0, 3, 10)),
        ):
            self.assertRaises(error, line.do, step)


if __name__ == "__main__":
    unittest.main()
