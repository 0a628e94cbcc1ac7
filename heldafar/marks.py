"""A way to find rings: marks are sent from house to house along all that can be come to."""

from heldafar.pictures import fields_by_name
from heldafar.reasons import why
from heldafar.ringways import RingWay


def first_names(picture):
    """A list: for each house the names that its hands, and the letters that go to it, point to."""
    coming = [[name for name in hands if name is not None] for hands, things in picture[0]]
    for sender, to, names in picture[1]:
        coming[to].extend(names)
    return coming


def go_on(fields, house, seen, names):
    """Notes in seen what the house comes to from the names within its own things; tells others' names new in it."""
    found = []
    ahead = list(names)
    while ahead:
        name = ahead.pop()
        if name not in seen:
            seen[name] = True
            if name[0] == house:
                ahead.extend([other for other in fields[name] if other is not None])
            else:
                found.append(name)
    return found


def marks_sent(fields, seen, coming):
    """The marks that the houses send in a round, rising."""
    sent = []
    for house, names in enumerate(coming):
        sent.extend([(house, name[0], name) for name in go_on(fields, house, seen[house], names)])
    return sorted(sent)


def names_sent(sent, many):
    """A list: for each of so many houses the names that it was sent."""
    coming = [[] for house in range(many)]
    for sender, to, name in sent:
        coming[to].append(name)
    return coming


class Marks(RingWay):
    """Looks at all that can be come to from hands and letters."""

    def seek(self, name):
        """A wanted paper, or the cut of all that can't be come to."""
        return why(self.snapshot, name)

    def verdicts(self):
        """A list: for each thing's name, rising, the name and its paper's first word."""
        return super().verdicts()

    def rounds(self):
        """A list of lists: the marks that are sent, round by round."""
        fields = fields_by_name(self.snapshot)
        coming = first_names(self.snapshot)
        seen = [{} for house in coming]
        told = []
        sent = marks_sent(fields, seen, coming)
        while sent:
            told.append(sent)
            sent = marks_sent(fields, seen, names_sent(sent, len(seen)))
        return told
