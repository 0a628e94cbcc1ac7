"""A house: its hands and things, its mail, and what it knows of who holds what."""

from heldafar.asking import Asks
from heldafar.doings import DOINGS
from heldafar.errors import BadStep
from heldafar.hearings import HEARINGS
from heldafar.leasepart import LeasePart
from heldafar.letters import names_in
from heldafar.listpart import ListPart
from heldafar.mail import Mail
from heldafar.room import Room
from heldafar.steps import is_step
from heldafar.takings import Takings
from heldafar.weightpart import WeightPart

WAYS = ("lists", "weights", "leases")


def part_by(way, house):
    """What a house knows at first, by that way."""
    if way == "lists":
        return ListPart(house)
    if way == "weights":
        return WeightPart(house)
    return LeasePart(house)


class House:
    """One of many houses; it does steps, and hears letters."""

    def __init__(self, number, many, way):
        self.number = number
        self.many = many
        self.way = way
        self.mail = Mail(number, many)
        self.part = part_by(way, number)
        self.room = Room(number)
        self.asks = Asks()
        self.takings = Takings(number, many)
        self.history = []

    def do(self, step):
        """Does a step; tells what comes of it."""
        if not is_step(step, self.number, self.many):
            raise BadStep("this is no step of a house")
        action = DOINGS[step[0]]
        answer = action(self, step)
        self.history.append(("step", step))
        return answer

    def hear(self, sender, body):
        """Does a letter of another house."""
        self.takings.note(sender, names_in(body, self.part))
        if body[0] in HEARINGS:
            action = HEARINGS[body[0]]
            action(self, sender, body)
        else:
            self.write_all(self.part.take(sender, body))

    def take(self, packet):
        """Takes a packet that comes; tells how many letters were heard."""
        letters = self.mail.take(packet)
        for sender, number, body in letters:
            self.hear(sender, body)
            self.history.append(("heard", sender, number))
        return len(letters)

    def told(self, number):
        """What an ask was told, None while it waits."""
        return self.asks.answer_to(number)

    def lapse(self, now):
        """It is now that time: what lapses is empty; tells a tuple of the names, rising."""
        names = self.part.lapse(now)
        for name in names:
            self.exchange(name, None)
        return names

    def hands(self):
        """A tuple of what the four hands have."""
        return tuple(self.room.grips)

    def still(self):
        """A tuple of the names that are still to be told."""
        return self.asks.still_told()

    def things(self):
        """A tuple of the things and marks that stand here, as in pictures."""
        return self.room.listed()

    def events(self):
        """A tuple of the steps and letters that were done."""
        return tuple(self.history)

    def taken(self):
        """A list of the own pictures that are complete: number, counts and picture, rising."""
        return self.takings.complete()

    def pictured(self):
        """What a picture has of this house."""
        return (self.hands() + self.still(), self.things())

    def handed(self, name, to):
        """A pointer to the name, which is handed on to another house; None of nothing."""
        if name is None:
            return None
        extra, letters = self.part.hand_on(name, to)
        self.write_all(letters)
        return (name, extra)

    def came(self, pointer):
        """The name of a pointer that comes; None of nothing, and of what has lapsed."""
        if pointer is None or self.part.is_over(pointer[1]):
            return None
        name, extra = pointer
        self.part.got(name, extra)
        return name

    def settled(self, pointer):
        """The name of a pointer that comes, or what the mark has that it is here."""
        return self.room.settled(self.came(pointer))

    def exchange(self, old, new):
        """Whatever has the old name here, or is still to tell it, has the new one, or None."""
        self.room.exchange(old, new)
        self.asks.exchange(old, new)

    def write_all(self, letters):
        """Writes letters that the part wants written."""
        for to, body in letters:
            self.mail.write(to, body)

    def note_part(self, key):
        """Notes this house's own part of a picture, and tells all others so."""
        self.takings.begin(key, self.pictured(), len(self.history))
        for to in range(self.many):
            if to != self.number:
                self.mail.write(to, ("picture",) + key)
        self.send_part(key)

    def send_part(self, key):
        """Sends the own part to the asking house, once all others' words of that picture have come."""
        told = self.takings.finished_part(key)
        if told is None:
            return
        asker, number = key
        if asker == self.number:
            self.takings.gather(number, asker, told)
        else:
            self.mail.write(asker, ("part", asker, number) + told)

    def copied(self):
        """The same once more, which goes its own way."""
        other = House(self.number, self.many, self.way)
        other.mail = self.mail.copied()
        other.part = self.part.copied()
        other.room = self.room.copied()
        other.asks = self.asks.copied()
        other.takings = self.takings.copied()
        other.history = list(self.history)
        return other
