"""Who holds what, by lists: of each own name how often it was handed to each house."""

from heldafar.parts import Part


def add_to(counts, key, by):
    """Changes a count of a dict; a count of 0 isn't there."""
    count = counts.get(key, 0) + by
    if count != 0:
        counts[key] = count
    elif key in counts:
        del counts[key]


def counts_copied(counts):
    """A dict of counts once more."""
    return {key: counts[key] for key in counts}


class ListPart(Part):
    """Counts of own names for each house; of others' names the handings got, and how often each is pinned."""

    def __init__(self, house):
        super().__init__(house)
        self.counts = {}
        self.handings = {}
        self.pins = {}

    def change_count(self, name, house, by):
        """Changes the count that a house has of an own name."""
        counts = self.counts.setdefault(name, {})
        add_to(counts, house, by)
        if not counts:
            del self.counts[name]

    def hand_on(self, name, to):
        """The name is handed on in a letter to another house; tells 0, and letters."""
        if name[0] == self.house:
            self.change_count(name, to, 1)
        elif name[0] != to:
            # Till its home has listed it, this house's own count is all that holds it there.
            add_to(self.pins, name, 1)
            return (0, [(name[0], ("list", name, to))])
        return (0, [])

    def got(self, name, extra):
        """The name came in a letter."""
        if name[0] != self.house:
            add_to(self.handings, name, 1)

    def is_held(self, name):
        """Whether some house has a count of the own name."""
        return name[0] == self.house and name in self.counts

    def pinned(self):
        """A tuple of the names of others that must be kept, rising."""
        return tuple(sorted(self.pins))

    def let_go(self, still):
        """Forgets the names of others that are neither among these nor pinned; tells letters, rising by name."""
        kept = {name: True for name in still}
        leaving = [name for name in sorted(self.handings) if name not in kept and name not in self.pins]
        letters = [(name[0], ("let go", name, self.handings[name])) for name in leaving]
        for name in leaving:
            del self.handings[name]
        return letters

    def take(self, sender, body):
        """Takes what another part said; tells letters."""
        word, name = body[0], body[1]
        if word == "list":
            self.change_count(name, body[2], 1)
            return [(sender, ("listed", name))]
        if word == "let go":
            self.change_count(name, sender, -body[2])
        elif word == "listed" and name in self.pins:
            add_to(self.pins, name, -1)
        return []

    def lapse(self, now):
        """By lists no name lapses."""
        return ()

    def knows(self, name):
        """Whether a name of another house was got, or is pinned."""
        return name in self.handings or name in self.pins

    def told(self, name):
        """A tuple: for each house with a count of the own name, rising, the house and its count."""
        return tuple(sorted(self.counts.get(name, {}).items()))

    def copied(self):
        """The same once more, which goes its own way."""
        other = ListPart(self.house)
        other.counts = {name: counts_copied(self.counts[name]) for name in self.counts}
        other.handings = counts_copied(self.handings)
        other.pins = counts_copied(self.pins)
        return other
