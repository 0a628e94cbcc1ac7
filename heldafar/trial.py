"""A way to find rings: what can be come to from a name is taken away on trial."""

from heldafar.reach import come_to, starts
from heldafar.reasons import cut_of, nearest_way, things_fields
from heldafar.ringways import RingWay


def outer_starts(picture, fields, near):
    """Pairs of a start and its name, of all that points to one of the near names but their own fields."""
    found = [(start, name) for start, name in starts(picture) if name in near]
    for thing in fields:
        if thing not in near:
            for field, name in enumerate(fields[thing]):
                if name in near:
                    found.append((("field", thing, field), name))
    return found


class Trial(RingWay):
    """Looks just at what can be come to from a name, and at what points there."""

    def seek(self, name):
        """The cut of what stays on trial, or a pointed paper where name doesn't."""
        fields = things_fields(self.snapshot, name)
        near = come_to(fields, [name])
        leading = outer_starts(self.snapshot, fields, near)
        way = nearest_way(fields, leading, name)
        if way is not None:
            start, steps = way
            return ("pointed", name, tuple(sorted(near)), start, steps)
        away = come_to(fields, [first for start, first in leading])
        return cut_of(self.snapshot, sorted([other for other in near if other not in away]))

    def verdicts(self):
        """A list: for each thing's name, rising, the name and its paper's first word."""
        return super().verdicts()
