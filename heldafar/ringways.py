"""The base of the ways to find rings on a picture."""

from heldafar.pictures import fields_by_name
from heldafar.reasons import why


class RingWay:
    """Tells a paper of each name of a picture; a way that stands on it seeks in its own manner."""

    def __init__(self, picture):
        self.snapshot = picture

    def seek(self, name):
        """A paper of that name."""
        return why(self.snapshot, name)

    def verdicts(self):
        """A list: for each thing's name, rising, the name and its paper's first word."""
        return [(name, self.seek(name)[0]) for name in fields_by_name(self.snapshot)]
