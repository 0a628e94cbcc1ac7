"""Takings: pictures of all houses as they are taken by letters, at one of the houses."""


class Taking:
    """A picture to which this house still notes letters: its own part, and the names of letters by sender."""

    def __init__(self, many, noted, count):
        self.many = many
        self.noted = noted
        self.count = count
        self.heard = [[] for sender in range(many)]
        self.closed = {}

    def note(self, sender, names):
        """Notes a letter's names, if the sender's own word of this picture hasn't come."""
        if sender not in self.closed:
            self.heard[sender].append(names)

    def letters(self, house):
        """A tuple of the letters noted, as in pictures, by sender and number."""
        return tuple([(sender, house, names) for sender in range(self.many) for names in self.heard[sender]])

    def copied(self):
        """The same once more, which goes its own way."""
        other = Taking(self.many, self.noted, self.count)
        other.heard = [list(rows) for rows in self.heard]
        other.closed = {sender: True for sender in self.closed}
        return other


class Takings:
    """All pictures that a house has heard of, by the house that asked for them and its number."""

    def __init__(self, house, many):
        self.house = house
        self.many = many
        # How many pictures this house has asked for.
        self.wished = 0
        self.begun = {}
        self.pending = {}
        # Of this house's own pictures by number: the parts that have come, by house; and, where all have, the counts
        # and the picture.
        self.gathered = {}
        self.whole = {}

    def wish(self):
        """One more picture of this house; tells its number."""
        self.wished += 1
        return self.wished - 1

    def is_begun(self, key):
        """Whether this house has noted its part already."""
        return key in self.begun

    def begin(self, key, noted, count):
        """Notes the part of this house, and how many events it has had."""
        self.begun[key] = True
        self.pending[key] = Taking(self.many, noted, count)

    def note(self, sender, names):
        """Notes the names of a letter for all pictures behind whose part, and ahead of whose word, it is heard."""
        if names:
            for taking in self.pending.values():
                taking.note(sender, names)

    def close(self, key, sender):
        """The sender's own word of that picture has come."""
        if key in self.pending:
            self.pending[key].closed[sender] = True

    def finished_part(self, key):
        """Part, letters and count, once all others' words of that picture have come; or else None."""
        if key not in self.pending or len(self.pending[key].closed) < self.many - 1:
            return None
        taking = self.pending.pop(key)
        return (taking.noted, taking.letters(self.house), taking.count)

    def gather(self, number, house, told):
        """The part of a house, with letters and count, for the own picture of that number."""
        parts = self.gathered.setdefault(number, {})
        parts[house] = told
        if len(parts) == self.many:
            rows = [parts[other] for other in range(self.many)]
            letters = [letter for noted, found, count in rows for letter in found]
            picture = (tuple([noted for noted, found, count in rows]), tuple(letters))
            self.whole[number] = (tuple([count for noted, found, count in rows]), picture)
            del self.gathered[number]

    def picture_of(self, number):
        """The own picture of that number, or None where none is complete."""
        if number not in self.whole:
            return None
        counts, picture = self.whole[number]
        return picture

    def complete(self):
        """A list of the own pictures that are complete: number, counts and picture, rising."""
        return [(number,) + self.whole[number] for number in sorted(self.whole)]

    def copied(self):
        """The same once more, which goes its own way."""
        other = Takings(self.house, self.many)
        other.wished = self.wished
        other.begun = {key: True for key in self.begun}
        other.pending = {key: taking.copied() for key, taking in self.pending.items()}
        other.gathered = {number: dict(parts) for number, parts in self.gathered.items()}
        other.whole = dict(self.whole)
        return other
