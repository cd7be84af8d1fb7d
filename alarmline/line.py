"""Lines: desks, the road on which their letters lie, and the log of all that came about."""

from alarmline.desk import Desk, check_desk, check_many


class Line:
    """Several desks and a road; the road holds (desk, letter), the desk being the one that is to hear it."""

    def __init__(self, many, causes, rota):
        check_many(many)
        self.desks = [Desk(number, many, causes, rota) for number in range(many)]
        self.road = []
        self.entries = []

    def do(self, step):
        """Do a step; tell the stamp of a deed, what a beat tells, else None."""
        word = step[0]
        if word == "settle":
            self.settle()
        elif word == "carry":
            self.carry(step[1])
        elif word == "lose":
            self.lose(step[1])
        elif word == "twice":
            self.hear_and_leave(step[1])
        elif word == "send":
            self.road.extend(self.desk_at(step[1]).letters())
        elif word == "beat":
            return self.do_beat(step[1], step[2])
        else:
            return self.do_deed(word, step[1], step[2:])
        return None

    def shown(self):
        """Tell (deeds, sight) of each desk."""
        return [(desk.deeds(), desk.sight()) for desk in self.desks]

    def log(self):
        """Tell all that came about, in its order."""
        return list(self.entries)

    def waits(self):
        """Tell how many letters lie on the road."""
        return len(self.road)

    def desk_at(self, number):
        """Tell the desk of that number; refuse BadDesk if there is none."""
        check_desk(number, len(self.desks))
        return self.desks[number]

    def do_deed(self, word, number, numbers):
        """Do a deed at a desk; tell its stamp."""
        desk = self.desk_at(number)
        if word == "ring":
            stamp = desk.ring(numbers[0], numbers[1])
        elif word == "clear":
            stamp = desk.clear(numbers[0])
        elif word == "hush":
            stamp = desk.hush(numbers[0], numbers[1])
        elif word == "take":
            stamp = desk.take(numbers[0], numbers[1])
        else:
            stamp = desk.back(numbers[0], numbers[1])
        self.entries.append(("done", number, desk.held[stamp]))
        return stamp

    def do_beat(self, number, beat):
        """Tell a desk a later beat; tell what the desk tells."""
        told = self.desk_at(number).beat(beat)
        self.entries.append(("beat", number, beat))
        for person, alarm, opening in told:
            self.entries.append(("told", number, person, alarm, opening))
        return told

    def carry(self, many):
        """Let the first letters of those that lie on the road now be heard."""
        # Answers are laid behind, so those that lie there now stay the first ones.
        left = min(many, len(self.road))
        while left > 0:
            self.hear_first()
            left -= 1

    def lose(self, place):
        """Let a letter be gone, if there is one at that place."""
        if self.has_letter(place):
            self.road.pop(place)

    def hear_and_leave(self, place):
        """Let a letter be heard and stay on the road, if there is one at that place."""
        if self.has_letter(place):
            number, letter = self.road[place]
            self.hear_at(number, letter)

    def has_letter(self, place):
        """Tell whether a letter lies at that place of the road."""
        # Python would count a place below 0 from the road's end.
        return 0 <= place < len(self.road)

    def settle(self):
        """Let all on the road be heard, then do rounds, till one tells no letter."""
        self.hear_all()
        while self.round_tells():
            pass

    def round_tells(self):
        """Do a round; tell whether a desk told a letter of its own accord in it."""
        tells = False
        for number in range(len(self.desks)):
            letters = self.desks[number].letters()
            if letters:
                tells = True
            self.road.extend(letters)
            self.hear_all()
        return tells

    def hear_all(self):
        """Let all letters on the road be heard, and so on what is told behind them."""
        while self.road:
            self.hear_first()

    def hear_first(self):
        """Let the first letter on the road be heard."""
        number, letter = self.road.pop(0)
        self.hear_at(number, letter)

    def hear_at(self, number, letter):
        """Let a desk hear a letter; what it tells behind it is laid on the road."""
        desk = self.desks[number]
        known = {deed[0] for deed in desk.deeds()}
        self.road.extend(desk.hear(letter))
        for deed in desk.deeds():
            if deed[0] not in known:
                self.entries.append(("heard", number, deed))
