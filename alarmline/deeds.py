"""What numbers and deeds are, and the refusal of what is none."""

from alarmline.errors import BadAlarm, BadBeat, BadDeeds, BadLevel, BadPerson

MOST_DEEDS = 1000

RANGES = {
    "alarm": (0, 29),
    "level": (1, 5),
    "person": (0, 9),
    "beat": (0, 999),
    "count": (1, 9999),
    "desk": (0, 4),
    "desks": (2, 5),
}

STAMP_PARTS = ("count", "desk")

WHAT_PARTS = {
    "raise": ("alarm", "level"),
    "clear": ("alarm",),
    "hush": ("alarm", "beat"),
    "take": ("alarm", "person"),
    "back": ("alarm", "person"),
}


def fits(kind, number):
    """Tell whether this is a number in the range of its kind."""
    # Python takes True and False for 1 and 0; the document does not.
    if isinstance(number, bool) or not isinstance(number, int):
        return False
    low, high = RANGES[kind]
    return low <= number <= high


def all_fit(kinds, numbers):
    """Tell whether there is one fitting number for each kind, and no more."""
    if len(kinds) != len(numbers):
        return False
    return all([fits(kind, number) for kind, number in zip(kinds, numbers)])


def check_alarm(alarm):
    """Refuse BadAlarm for what is no alarm."""
    if not fits("alarm", alarm):
        raise BadAlarm("alarms are numbers from 0 to 29")


def check_level(level):
    """Refuse BadLevel for what is no level."""
    if not fits("level", level):
        raise BadLevel("levels are numbers from 1 to 5")


def check_beat(beat):
    """Refuse BadBeat for what is no beat."""
    if not fits("beat", beat):
        raise BadBeat("beats are numbers from 0 to 999")


def check_person(person):
    """Refuse BadPerson for what is no person."""
    if not fits("person", person):
        raise BadPerson("persons are numbers from 0 to 9")


def is_stamp(stamp):
    """Tell whether this is a stamp, (count, desk)."""
    return isinstance(stamp, tuple) and all_fit(STAMP_PARTS, stamp)


def is_what(what):
    """Tell whether this is what a deed may do: a word and its numbers."""
    if not isinstance(what, tuple) or len(what) == 0:
        return False
    word = what[0]
    if not isinstance(word, str) or word not in WHAT_PARTS:
        return False
    return all_fit(WHAT_PARTS[word], what[1:])


def is_deed(deed):
    """Tell whether this is a deed, (stamp, what)."""
    if not isinstance(deed, tuple) or len(deed) != 2:
        return False
    return is_stamp(deed[0]) and is_what(deed[1])


def check_deeds(deeds):
    """Refuse BadDeeds at the first of the list that can't stand where it does."""
    seen = set()
    for at, deed in enumerate(deeds):
        if at >= MOST_DEEDS or not is_deed(deed):
            raise BadDeeds(at)
        stamp = deed[0]
        if stamp in seen:
            raise BadDeeds(at)
        seen.add(stamp)
