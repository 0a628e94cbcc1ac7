"""Who holds what, by leases: of each name the time till which it is held."""

from heldafar.parts import Part

LEASE = 8
NO_LEASE = -1


class LeasePart(Part):
    """The leases that were told for own names, and those that names of others have here."""

    def __init__(self, house):
        super().__init__(house)
        self.now = 0
        self.lent = {}
        self.borrowed = {}

    def lend(self, name):
        """The own name's lease begins anew; tells it."""
        lease = self.now + LEASE
        self.lent[name] = lease
        return lease

    def hand_on(self, name, to):
        """The name is handed on in a letter to another house; tells its lease, no letters."""
        if name[0] == self.house:
            return (self.lend(name), [])
        return (self.lease(name), [])

    def got(self, name, extra):
        """The name came in a letter, with that lease; the later one counts."""
        if name[0] != self.house:
            self.borrowed[name] = max(extra, self.lease(name))

    def is_held(self, name):
        """Whether the own name's lease isn't over."""
        return name in self.lent and self.lent[name] >= self.now

    def is_over(self, extra):
        """Whether that lease is over."""
        return extra < self.now

    def pinned(self):
        """By leases no name must be kept."""
        return ()

    def let_go(self, still):
        """Forgets the names of others that aren't among these; tells letters that renew the others, rising by name."""
        self.borrowed = {name: self.borrowed[name] for name in still if name in self.borrowed}
        return [(name[0], ("renew", name)) for name in sorted(self.borrowed)]

    def take(self, sender, body):
        """Takes what another part said; tells letters."""
        word, name = body[0], body[1]
        if word == "renew":
            return [(sender, ("lent", name, self.lend(name)))]
        if word == "lent" and self.knows(name):
            self.got(name, body[2])
        return []

    def lapse(self, now):
        """It is now that time; tells a tuple of the names of others that lapse, rising, and forgets them."""
        self.now = now
        lapsed = sorted([name for name in self.borrowed if self.is_over(self.borrowed[name])])
        for name in lapsed:
            del self.borrowed[name]
        return tuple(lapsed)

    def knows(self, name):
        """Whether a name of another house has a lease here."""
        return name in self.borrowed

    def lease(self, name):
        """The lease that was told for an own name, or that another's name has here; -1 for none."""
        if name[0] == self.house:
            return self.lent.get(name, NO_LEASE)
        return self.borrowed.get(name, NO_LEASE)

    def copied(self):
        """The same once more, which goes its own way."""
        other = LeasePart(self.house)
        other.now = self.now
        other.lent = {name: self.lent[name] for name in self.lent}
        other.borrowed = {name: self.borrowed[name] for name in self.borrowed}
        return other
