"""What a deed is, and the refusal of a list that holds anything else."""

from alarmline.errors import BadDeeds

MOST_DEEDS = 1000

RANGES = {
    "alarm": (0, 29),
    "level": (1, 5),
    "person": (0, 9),
    "beat": (0, 999),
    "count": (1, 9999),
    "desk": (0, 4),
}

STAMP_PARTS = ("count", "desk")

WHAT_PARTS = {
    "raise": ("alarm", "level"),
    "clear": ("alarm",),
    "hush": ("alarm", "beat"),
    "take": ("alarm", "person"),
    "back": ("alarm", "person"),
}


def fits(kind, number):
    """Tell whether this is a number in the range of its kind."""
    # Python takes True and False for 1 and 0; the document does not.
    if isinstance(number, bool) or not isinstance(number, int):
        return False
    low, high = RANGES[kind]
    return low <= number <= high


def all_fit(kinds, numbers):
    """Tell whether there is one fitting number for each kind, and no more."""
    if len(kinds) != len(numbers):
        return False
    return all([fits(kind, number) for kind, number in zip(kinds, numbers)])


def is_stamp(stamp):
    """Tell whether this is a stamp, (count, desk)."""
    return isinstance(stamp, tuple) and all_fit(STAMP_PARTS, stamp)


def is_what(what):
    """Tell whether this is what a deed may do: a word and its numbers."""
    if not isinstance(what, tuple) or len(what) == 0:
        return False
    word = what[0]
    if not isinstance(word, str) or word not in WHAT_PARTS:
        return False
    return all_fit(WHAT_PARTS[word], what[1:])


def is_deed(deed):
    """Tell whether this is a deed, (stamp, what)."""
    if not isinstance(deed, tuple) or len(deed) != 2:
        return False
    return is_stamp(deed[0]) and is_what(deed[1])


def check_deeds(deeds):
    """Refuse BadDeeds at the first of the list that can't stand where it does."""
    seen = set()
    for at, deed in enumerate(deeds):
        if at >= MOST_DEEDS or not is_deed(deed):
            raise BadDeeds(at)
        stamp = deed[0]
        if stamp in seen:
            raise BadDeeds(at)
        seen.add(stamp)
