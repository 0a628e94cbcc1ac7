"""A room: the hands of a house, and what stands there."""

from heldafar.pictures import HANDS, LAST_NUMBER, MOST_THINGS


def exchanged(names, old, new):
    """The names once more, with the new one wherever the old one was."""
    return [new if name == old else name for name in names]


class Room:
    """What the hands of a house have, and its things and marks by name."""

    def __init__(self, house):
        self.house = house
        self.grips = [None for hand in range(HANDS)]
        # For each name, rising, its sort and its fields.
        self.entries = {}
        self.made = 0

    def has_space(self):
        """Whether a thing more may be made."""
        return len(self.entries) < MOST_THINGS and self.made <= LAST_NUMBER

    def make(self, fields):
        """A thing more with these fields; tells its name."""
        name = (self.house, self.made)
        self.made += 1
        self.entries[name] = ("thing", tuple(fields))
        return name

    def entry(self, name):
        """The sort and the fields of what stands there, or None."""
        return self.entries.get(name)

    def fill(self, name, field, new):
        """That field of a thing has the new name, or None."""
        sort, fields = self.entries[name]
        self.entries[name] = (sort, fields[:field] + (new,) + fields[field + 1:])

    def become_mark(self, name, new):
        """The thing becomes a mark of the new name."""
        self.entries[name] = ("mark", (new,))

    def settled(self, name):
        """What a mark has where the name is a mark here; or else the name."""
        entry = self.entry(name)
        if entry is None or entry[0] != "mark":
            return name
        return entry[1][0]

    def exchange(self, old, new):
        """Each hand and each field that has the old name has the new one, or None."""
        self.grips = exchanged(self.grips, old, new)
        for name in list(self.entries):
            sort, fields = self.entries[name]
            if old in fields:
                self.entries[name] = (sort, tuple(exchanged(fields, old, new)))

    def free(self, names):
        """Each of these that stands has all fields empty."""
        for name in names:
            if name in self.entries:
                sort, fields = self.entries[name]
                self.entries[name] = (sort, tuple([None for field in fields]))

    def take_up(self, names):
        """These don't stand any more."""
        for name in names:
            del self.entries[name]

    def pointed(self):
        """A dict: for each name that stands its fields."""
        return {name: fields for name, (sort, fields) in self.entries.items()}

    def listed(self):
        """A tuple of all that stands, as in pictures."""
        return tuple([(name, sort, fields) for name, (sort, fields) in self.entries.items()])

    def copied(self):
        """The same once more, which goes its own way."""
        other = Room(self.house)
        other.grips = list(self.grips)
        other.entries = {name: self.entries[name] for name in self.entries}
        other.made = self.made
        return other
