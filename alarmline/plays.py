"""Plays: steps done by a line one behind another, and the texts of steps."""

from alarmline.errors import BadText, LineError
from alarmline.line import Line
from alarmline.notes import number_in, rows_of, text_of

REFUSED = "no"

# How many numbers stand behind the word of a step.
STEP_NUMBERS = {
    "ring": 3,
    "clear": 2,
    "hush": 3,
    "take": 3,
    "back": 3,
    "beat": 2,
    "send": 1,
    "carry": 1,
    "lose": 1,
    "twice": 1,
    "settle": 0,
}


def played(many, causes, rota, steps):
    """Tell (what each step tells, or "no" for one that is refused; the line that did them)."""
    line = Line(many, causes, rota)
    return ([told_by(line, step) for step in steps], line)


def told_by(line, step):
    """Let a line do a step; tell what it tells, or "no"."""
    try:
        return line.do(step)
    except LineError:
        return REFUSED


def steps_written(steps):
    """Tell the text of steps, in their order."""
    return text_of(steps)


def steps_read(text):
    """Tell the steps of a text; refuse BadText at the first line that is no step."""
    steps = []
    for line, row in enumerate(rows_of(text)):
        word, *figures = row.split(" ")
        numbers = [number_in(part) for part in figures]
        if STEP_NUMBERS.get(word) != len(numbers) or None in numbers:
            raise BadText(line)
        steps.append((word, *numbers))
    return steps
