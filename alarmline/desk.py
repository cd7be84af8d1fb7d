"""Desks: deeds are done there, told to the others by letters, and told to persons."""

from alarmline.boards import board_behind
from alarmline.deeds import check_alarm, check_beat, check_level, check_person, fits
from alarmline.errors import BadBeat, BadDesk, BadRota, Full
from alarmline.seeing import check_causes, sight_of, tops_of, where_of

MOST_DONE = 200
ROTA_LEVELS = 5
MOST_ON_ROTA = 4


class Desk:
    """One desk of several.

    A letter is (sender, asks, deeds): all deeds that the sender knows, so that whatever
    was lost ahead of it isn't missed, and whether the sender waits for an answer.
    """

    def __init__(self, number, many, causes, rota):
        check_desk(number, many)
        check_causes(causes)
        check_rota(rota)
        self.number = number
        self.many = many
        self.causes = list(causes)
        self.rota = rota
        self.now = 0
        self.held = {}
        self.greatest = 0
        self.done = 0
        self.told = {}
        self.sure = [0] * many

    def ring(self, alarm, level):
        """Raise an alarm; tell the stamp."""
        check_alarm(alarm)
        check_level(level)
        return self.act(("raise", alarm, level))

    def clear(self, alarm):
        """Clear an alarm; tell the stamp."""
        check_alarm(alarm)
        return self.act(("clear", alarm))

    def hush(self, alarm, beat):
        """Hush an alarm till a beat; tell the stamp."""
        check_alarm(alarm)
        check_beat(beat)
        return self.act(("hush", alarm, beat))

    def take(self, alarm, person):
        """Let a person take an alarm on; tell the stamp."""
        check_alarm(alarm)
        check_person(person)
        return self.act(("take", alarm, person))

    def back(self, alarm, person):
        """Let a person hand an alarm back; tell the stamp."""
        check_alarm(alarm)
        check_person(person)
        return self.act(("back", alarm, person))

    def deeds(self):
        """Tell all deeds that the desk knows, as stamps ascend."""
        return [self.held[stamp] for stamp in sorted(self.held)]

    def board(self):
        """Tell the board behind the deeds that the desk knows."""
        return board_behind(self.deeds())

    def sight(self):
        """Tell the rows that are in sight at the desk's beat."""
        return sight_of(self.board(), self.causes, self.now)

    def where(self, alarm):
        """Tell the row in which an alarm is in sight, or None if it isn't open."""
        return where_of(self.board(), self.causes, self.now, alarm)

    def letters(self):
        """Tell (desk, letter) for each other desk that may not know all that this one knows."""
        letter = (self.number, True, tuple(self.deeds()))
        return [(desk, letter) for desk in range(self.many) if not self.is_sure(desk)]

    def hear(self, letter):
        """Learn from a letter; tell (desk, letter) of the answer, if there is one."""
        sender, asks, deeds = letter
        self.learn(deeds)
        self.sure[sender] = max(self.sure[sender], len(deeds))
        if not asks:
            return []
        return [(sender, (self.number, not self.is_sure(sender), tuple(self.deeds())))]

    def beat(self, number):
        """Go on to a later beat; tell (person, alarm, opening) of all that is to be told here."""
        check_beat(number)
        if number <= self.now:
            raise BadBeat(f"the beat is {self.now} already")
        self.now = number
        board = self.board()
        tops = tops_of(board, self.causes, number)
        told = []
        for alarm, opening, level, till, taker in board:
            if tops.get(alarm) == alarm and taker is None and opening not in self.told:
                person = self.due_person(opening)
                if person % self.many == self.number:
                    told.append((person, alarm, opening))
                    self.told[opening] = True
        return told

    def act(self, what):
        """Do a deed here; tell its stamp."""
        if self.done >= MOST_DONE:
            raise Full(f"{MOST_DONE} deeds were done at this desk")
        stamp = (self.greatest + 1, self.number)
        self.done += 1
        self.learn([(stamp, what)])
        return stamp

    def learn(self, deeds):
        """Know these deeds from now on."""
        for deed in deeds:
            stamp = deed[0]
            self.held[stamp] = deed
            self.greatest = max(self.greatest, stamp[0])

    def is_sure(self, desk):
        """Tell whether that desk surely knows all that this one knows."""
        # All deeds in the longest letter of that desk are known here, so like numbers mean like deeds.
        return desk == self.number or self.sure[desk] == len(self.held)

    def due_person(self, opening):
        """Tell the person whom an opening is due to."""
        level = self.held[opening][1][2]
        persons = self.rota[level - 1]
        return persons[opening[0] % len(persons)]


def check_many(many):
    """Refuse BadDesk if there can't be so many desks."""
    if not fits("desks", many):
        raise BadDesk("there are 2 to 5 desks")


def check_desk(number, many):
    """Refuse BadDesk for what is no desk among so many."""
    check_many(many)
    if not fits("desk", number) or number >= many:
        raise BadDesk(f"desks are numbers from 0 to {many - 1}")


def check_rota(rota):
    """Refuse BadRota for what isn't, for each level, a tuple of one to four persons."""
    if not isinstance(rota, tuple) or len(rota) != ROTA_LEVELS:
        raise BadRota("a rota is a tuple of five tuples, for the levels 1 to 5")
    for persons in rota:
        if not is_turn(persons):
            raise BadRota("a rota has one to four persons for each level")


def is_turn(persons):
    """Tell whether these may be the persons of a rota for one level."""
    if not isinstance(persons, tuple) or not 1 <= len(persons) <= MOST_ON_ROTA:
        return False
    return all([fits("person", person) for person in persons])
