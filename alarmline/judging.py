"""Judging: the first entry of a log that can't be behind those ahead of it."""

from alarmline.deeds import fits, is_deed, is_stamp
from alarmline.desk import Desk, check_many, check_rota
from alarmline.errors import BadBeat, BadLog, Full
from alarmline.seeing import check_causes

MOST_ENTRIES = 2000

ENTRY_PARTS = {
    "done": ("desk", "deed"),
    "heard": ("desk", "deed"),
    "beat": ("desk", "beat"),
    "told": ("desk", "person", "alarm", "stamp"),
}


def judged(many, causes, rota, log):
    """Tell the number of the first entry that can't be behind those ahead, or None."""
    check_many(many)
    check_causes(causes)
    check_rota(rota)
    check_log(log)
    judge = Judge(many, causes, rota)
    for at, entry in enumerate(log):
        if not judge.lets(entry):
            return at
    return None


def check_log(log):
    """Refuse BadLog at the first that is no entry."""
    for at, entry in enumerate(log):
        if at >= MOST_ENTRIES or not is_entry(entry):
            raise BadLog(at)


def is_entry(entry):
    """Tell whether this is an entry of a log: a word and its parts."""
    if not isinstance(entry, tuple) or len(entry) == 0:
        return False
    word = entry[0]
    if not isinstance(word, str) or word not in ENTRY_PARTS:
        return False
    kinds = ENTRY_PARTS[word]
    if len(entry) != len(kinds) + 1:
        return False
    return all([part_fits(kind, part) for kind, part in zip(kinds, entry[1:])])


def part_fits(kind, part):
    """Tell whether this is a stamp, a deed or a number of its kind."""
    if kind == "stamp":
        return is_stamp(part)
    if kind == "deed":
        return is_deed(part)
    return fits(kind, part)


class Judge:
    """Desks that do again what a log tells, and what each is to tell yet.

    An entry that is not let may have changed them: nothing behind it is judged.
    """

    def __init__(self, many, causes, rota):
        self.desks = [Desk(number, many, causes, rota) for number in range(many)]
        self.doings = [[] for number in range(many)]
        self.known = [[0] * many for number in range(many)]
        self.untold = [[] for number in range(many)]

    def lets(self, entry):
        """Tell whether an entry can be behind those that were let ahead; do it."""
        word = entry[0]
        number = entry[1]
        if number >= len(self.desks):
            return False
        if word == "told":
            return self.lets_told(number, entry[2:])
        if self.untold[number]:
            return False
        if word == "done":
            return self.lets_done(number, entry[2])
        if word == "heard":
            return self.lets_heard(number, entry[2])
        return self.lets_beat(number, entry[2])

    def lets_done(self, number, deed):
        """Tell whether a desk can do a deed now, by its stamp."""
        stamp, what = deed
        try:
            given = self.desks[number].act(what)
        except Full:
            return False
        self.doings[number].append(deed)
        return stamp == given

    def lets_heard(self, number, deed):
        """Tell whether a deed is the next one of its doer that a desk hears of."""
        doer = deed[0][1]
        if doer == number or doer >= len(self.desks):
            return False
        done = self.doings[doer]
        already = self.known[number][doer]
        if already >= len(done) or done[already] != deed:
            return False
        self.known[number][doer] = already + 1
        self.desks[number].learn([deed])
        return True

    def lets_beat(self, number, beat):
        """Tell whether a beat is a later one for a desk."""
        try:
            self.untold[number] = self.desks[number].beat(beat)
        except BadBeat:
            return False
        return True

    def lets_told(self, number, told):
        """Tell whether this is what a desk is to tell next."""
        untold = self.untold[number]
        if not untold or untold[0] != told:
            return False
        untold.pop(0)
        return True
