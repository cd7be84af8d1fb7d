"""The refusals of the program, each a LineError."""


class LineError(ValueError):
    """Any refusal."""


class BadDeeds(LineError):
    """A list of deeds holds one that can't be there; `at` is its place, from 0."""

    def __init__(self, at):
        LineError.__init__(self, f"what stands at {at} can't be a deed there")
        self.at = at


class BadCauses(LineError):
    """A list of causes holds one that can't be there; `at` is its place, from 0."""

    def __init__(self, at):
        LineError.__init__(self, f"what stands at {at} can't be a cause there")
        self.at = at


class BadLog(LineError):
    """A log holds what is no entry; `at` is its place, from 0."""

    def __init__(self, at):
        LineError.__init__(self, f"what stands at {at} can't be an entry of a log")
        self.at = at


class BadDesk(LineError):
    """There is no such desk, or there can't be so many."""


class BadRota(LineError):
    """The rota is none."""


class BadAlarm(LineError):
    """There is no such alarm."""


class BadLevel(LineError):
    """There is no such level."""


class BadBeat(LineError):
    """There is no such beat, or it isn't later."""


class BadPerson(LineError):
    """There is no such person."""


class Full(LineError):
    """A desk has done all the deeds that it may."""


class BadText(LineError):
    """A text has a line that can't be there; `line` is its number, from 0."""

    def __init__(self, line):
        LineError.__init__(self, f"line {line} can't be read")
        self.line = line
