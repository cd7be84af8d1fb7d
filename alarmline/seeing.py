"""In sight: which row each open alarm is told in, by causes and a beat."""

from alarmline.deeds import RANGES, all_fit, check_alarm, check_beat
from alarmline.errors import BadCauses

MOST_CAUSES = 60

PAIR_PARTS = ("alarm", "alarm")

# More of one level than these make a flood, which leaves fewer rows of their own.
MOST_WITHOUT_FLOOD = 5
LEFT_BY_FLOOD = 4


def sight_of(board, causes, beat):
    """Tell the rows in which the open alarms of a board are in sight at a beat."""
    check_causes(causes)
    check_beat(beat)
    return [row for row, alarms in places_of(board, causes, beat)]


def where_of(board, causes, beat, alarm):
    """Tell the row in which an alarm is in sight, or None if it isn't open."""
    check_causes(causes)
    check_beat(beat)
    check_alarm(alarm)
    for row, alarms in places_of(board, causes, beat):
        if alarm in alarms:
            return row
    return None


def check_causes(causes):
    """Refuse BadCauses at the first pair that can't be behind those ahead."""
    effects = {}
    for at, pair in enumerate(causes):
        if at >= MOST_CAUSES or not is_pair(pair):
            raise BadCauses(at)
        cause, effect = pair
        # A way back from the effect to the cause would make each its own cause.
        if leads(effects, effect, cause):
            raise BadCauses(at)
        effects.setdefault(cause, []).append(effect)


def is_pair(pair):
    """Tell whether this is a tuple of two alarms."""
    return isinstance(pair, tuple) and all_fit(PAIR_PARTS, pair)


def leads(effects, start, goal):
    """Tell whether an alarm is, straight or not, a cause of another one, or that one itself."""
    seen = set()
    waiting = [start]
    while waiting:
        alarm = waiting.pop()
        if alarm == goal:
            return True
        if alarm not in seen:
            seen.add(alarm)
            waiting.extend(effects.get(alarm, []))
    return False


def tops_of(board, causes, beat):
    """Tell, by alarms, the top of each open alarm that isn't hushed; a shown one is its own."""
    awake = {row[0]: True for row in board if row[3] <= beat}
    under = {}
    for cause, effect in causes:
        if cause in awake:
            under[effect] = min(cause, under.get(effect, cause))
    tops = {}
    for alarm in awake:
        top = alarm
        while top in under:
            top = under[top]
        tops[alarm] = top
    return tops


def places_of(board, causes, beat):
    """Tell (row, alarms) of all rows in sight: the alarms are those that are in sight there."""
    tops = tops_of(board, causes, beat)
    least, greatest = RANGES["level"]
    places = []
    for level in range(greatest, least - 1, -1):
        places.extend(places_of_level(board, tops, level))
    for alarm, opening, level, till, taker in board:
        if till > beat:
            places.append((("hushed", alarm, till), [alarm]))
    return places


def places_of_level(board, tops, level):
    """Tell (row, alarms) of the rows of one level."""
    shown = [row for row in board if row[2] == level and tops.get(row[0]) == row[0]]
    own_rows = len(shown)
    if own_rows > MOST_WITHOUT_FLOOD:
        own_rows = LEFT_BY_FLOOD
    places = []
    for row in shown[:own_rows]:
        alarms = alarms_below(tops, [row[0]])
        places.append((("open", row[0], level, row[4], len(alarms) - 1), alarms))
    flooded = [row[0] for row in shown[own_rows:]]
    if flooded:
        alarms = alarms_below(tops, flooded)
        places.append((("flood", level, len(flooded), len(alarms) - len(flooded)), alarms))
    return places


def alarms_below(tops, shown):
    """Tell these shown alarms and all those whose top is one of them."""
    return [alarm for alarm in tops if tops[alarm] in shown]
