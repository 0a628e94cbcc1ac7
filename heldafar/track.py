"""A way to find rings: going back to what points to a name, and to what points to that."""

from heldafar.reach import come_to, pointing
from heldafar.reasons import cut_of, things_fields, wanted_for
from heldafar.ringways import RingWay


class Track(RingWay):
    """Looks just at what leads to a name."""

    def seek(self, name):
        """A wanted paper, or the cut of all that leads to name."""
        paper = wanted_for(self.snapshot, name)
        if paper is None:
            return cut_of(self.snapshot, self.gone(name))
        return paper

    def verdicts(self):
        """A list: for each thing's name, rising, the name and its paper's first word."""
        return super().verdicts()

    def gone(self, name):
        """A list of the things gone back to from name, and of name, rising."""
        return sorted(come_to(pointing(things_fields(self.snapshot, name)), [name]))
