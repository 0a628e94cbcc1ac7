"""The base of the ways to know who holds what."""


class Part:
    """What a house knows of its own things that are held from afar, and of names of others: here nothing."""

    def __init__(self, house):
        self.house = house

    def hand_on(self, name, to):
        """The name is handed on in a letter to another house; tells what goes beside it, and letters."""
        return (0, [])

    def got(self, name, extra):
        """The name came in a letter, with what went beside it."""
        return None

    def is_held(self, name):
        """Whether an own name may be held from afar."""
        return False

    def is_over(self, extra):
        """Whether a pointer with that beside its name has lapsed; only leases do."""
        return False

    def pinned(self):
        """A tuple of the names of others that must be kept, rising."""
        return ()

    def let_go(self, still):
        """Forgets the names of others that are neither among these nor pinned; tells letters, rising by name."""
        return []

    def take(self, sender, body):
        """Takes what another part said; tells letters."""
        return []

    def lapse(self, now):
        """It is now that time; tells a tuple of the names of others that lapse, rising."""
        return ()

    def knows(self, name):
        """Whether a name of another house is known here."""
        return False

    def copied(self):
        """The same once more, which goes its own way."""
        return Part(self.house)
