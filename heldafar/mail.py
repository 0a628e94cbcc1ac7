"""Mail: the letters of a house, numbered for each other house, done once and in order."""

from heldafar.errors import NoHouse, NoPacket
from heldafar.pictures import is_house, is_number, is_sized


def is_packet(packet):
    """Whether it has the form of a packet, whichever houses its numbers tell."""
    if not is_sized(packet, 4) and not is_sized(packet, 5):
        return False
    if not isinstance(packet[0], str) or packet[0] != ("owned" if len(packet) == 4 else "letter"):
        return False
    return all(is_number(number) for number in packet[1:4]) and packet[3] >= 0


def mail_holds(written, done):
    """Whether the bodies that were done are a beginning of those that were written."""
    return written[:len(done)] == done


class Mail:
    """The letters that a house wrote to the others, and how far it has done theirs."""

    def __init__(self, house, many):
        self.house = house
        self.many = many
        # Each has one item for each house: bodies that aren't owned yet, and how many letters were owned;
        # how many letters of that house are done here, and by number the bodies that came early.
        self.kept = [[] for other in range(many)]
        self.owned = [0 for other in range(many)]
        self.finished = [0 for other in range(many)]
        self.early = [{} for other in range(many)]

    def is_other(self, house):
        """Whether it is another house than this one."""
        return is_house(house, self.many) and house != self.house

    def look_at_other(self, house):
        """Refuses what is no other house."""
        if not self.is_other(house):
            raise NoHouse("this is no other house")

    def write(self, to, body):
        """Writes a letter; tells its number."""
        number = self.written(to)
        self.kept[to].append(body)
        return number

    def packets(self):
        """A list: for each other house the letters that it doesn't own, and how many of its letters are done."""
        told = []
        for to in range(self.many):
            if to != self.house:
                for number, body in enumerate(self.kept[to], start=self.owned[to]):
                    told.append(("letter", self.house, to, number, body))
                told.append(("owned", self.house, to, self.finished[to]))
        return told

    def unowned(self, to):
        """A list of the bodies of the letters that the other house doesn't own."""
        self.look_at_other(to)
        return list(self.kept[to])

    def written(self, to):
        """How many letters were written to the other house."""
        self.look_at_other(to)
        return self.owned[to] + len(self.kept[to])

    def done(self, sender):
        """How many letters of the other house are done."""
        self.look_at_other(sender)
        return self.finished[sender]

    def take(self, packet):
        """Takes a packet that comes; tells the letters that are done by it, each with sender, number and body."""
        if not is_packet(packet) or not self.is_other(packet[1]) or packet[2] != self.house:
            raise NoPacket("this is no packet for this house")
        sender, number = packet[1], packet[3]
        if packet[0] == "letter":
            return self.take_letter(sender, number, packet[4])
        if number > self.written(sender):
            raise NoPacket("more letters are owned than were written")
        self.forget_owned(sender, number)
        return []

    def take_letter(self, sender, number, body):
        """Keeps a letter that isn't done; does all that are next."""
        early = self.early[sender]
        if number >= self.finished[sender] and number not in early:
            early[number] = body
        told = []
        while self.finished[sender] in early:
            following = self.finished[sender]
            told.append((sender, following, early.pop(following)))
            self.finished[sender] += 1
        return told

    def forget_owned(self, to, number):
        """Keeps no letters any more whose number is lesser."""
        if number > self.owned[to]:
            self.kept[to] = self.kept[to][number - self.owned[to]:]
            self.owned[to] = number

    def copied(self):
        """The same once more, which goes its own way."""
        other = Mail(self.house, self.many)
        other.kept = [list(bodies) for bodies in self.kept]
        other.owned = list(self.owned)
        other.finished = list(self.finished)
        other.early = [{number: early[number] for number in early} for early in self.early]
        return other
