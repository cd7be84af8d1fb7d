"""Boards: what stands behind deeds."""

from alarmline.deeds import check_deeds


class OpenAlarm:
    """What stands of an open alarm; the opening is the stamp of the raise that opened it."""

    def __init__(self, opening, level):
        self.opening = opening
        self.level = level
        self.till = 0
        self.taker = None


def board_of(deeds):
    """Tell (alarm, opening, level, till, taker) of all open alarms, rising."""
    check_deeds(deeds)
    # No stamp stands twice, so the order of the tuples is that of their stamps.
    return board_behind(sorted(deeds))


def board_behind(deeds):
    """Tell the board behind what surely are deeds, in the order of their stamps."""
    alarms = {}
    for deed in deeds:
        do_deed(alarms, deed)
    return [row_of(alarm, alarms[alarm]) for alarm in sorted(alarms)]


def do_deed(alarms, deed):
    """Do one deed upon the open alarms, a dict by their numbers."""
    stamp, what = deed
    word = what[0]
    alarm = what[1]
    if alarm not in alarms:
        if word == "raise":
            alarms[alarm] = OpenAlarm(stamp, what[2])
    elif word == "clear":
        del alarms[alarm]
    else:
        change_open(alarms[alarm], word, what[2])


def change_open(held, word, number):
    """Do a raise, hush, take or back upon an alarm that is open."""
    if word == "raise":
        held.level = number
    elif word == "hush":
        held.till = number
    elif word == "take":
        if held.taker is None:
            held.taker = number
    elif held.taker == number:
        held.taker = None


def row_of(alarm, held):
    """Tell the row of an open alarm on the board."""
    return (alarm, held.opening, held.level, held.till, held.taker)
