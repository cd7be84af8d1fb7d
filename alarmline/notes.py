"""Texts of deeds: a row for each, written and read."""

from alarmline.deeds import check_deeds, is_deed
from alarmline.errors import BadText

MOST_FIGURES = 4
FIGURES = "0123456789"


def written(deeds):
    """Tell the text of deeds, as stamps ascend."""
    check_deeds(deeds)
    return text_of([(*stamp, *what) for stamp, what in sorted(deeds)])


def read(text):
    """Tell the deeds of a text; refuse BadText at the first line that can't be there."""
    deeds = []
    for line, row in enumerate(rows_of(text)):
        deed = deed_in(row)
        if not is_deed(deed):
            raise BadText(line)
        if deeds and deed[0] <= deeds[-1][0]:
            raise BadText(line)
        deeds.append(deed)
    return deeds


def deed_in(row):
    """Tell what stands in a row where a deed should; it may be none."""
    words = row.split(" ")
    stamp = [number_in(word) for word in words[:2]]
    what = words[2:3] + [number_in(word) for word in words[3:]]
    return (tuple(stamp), tuple(what))


def text_of(rows):
    """Tell the text of rows of words and numbers."""
    return "\n".join([" ".join([str(part) for part in row]) for row in rows])


def rows_of(text):
    """Tell the rows of a text; the empty text has none."""
    if text == "":
        return []
    return text.split("\n")


def number_in(word):
    """Tell the number that a word is; None if it is none, or has a needless 0."""
    if not 1 <= len(word) <= MOST_FIGURES:
        return None
    if not all([sign in FIGURES for sign in word]):
        return None
    if word[0] == "0" and word != "0":
        return None
    return int(word)
