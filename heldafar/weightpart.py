"""Who holds what, by weights: what is out of each own name, and what of others' names is here."""

from heldafar.parts import Part

NOTHING = (0, 1)
WHOLE = (1, 1)


def lowest(top, bottom):
    """The fraction in lowest terms."""
    high, low = bottom, abs(top)
    while low != 0:
        high, low = low, high % low
    return (top // high, bottom // high)


def put_together(one, other):
    """Both fractions as one."""
    return lowest(one[0] * other[1] + other[0] * one[1], one[1] * other[1])


def half_of(weight):
    """Half of a fraction."""
    return lowest(weight[0], 2 * weight[1])


def put_to(weights, name, weight):
    """Puts a weight to the one that name has in a dict; a weight of nothing isn't there."""
    whole = put_together(weights.get(name, NOTHING), weight)
    if whole != NOTHING:
        weights[name] = whole
    elif name in weights:
        del weights[name]


def take_from(weights, name, weight):
    """Takes a weight from the one that name has in a dict."""
    put_to(weights, name, (-weight[0], weight[1]))


def weights_copied(weights):
    """A dict of weights once more."""
    return {name: weights[name] for name in weights}


class WeightPart(Part):
    """The weights of own names that are out, and those of others' names that are here."""

    def __init__(self, house):
        super().__init__(house)
        self.outside = {}
        self.inside = {}

    def hand_on(self, name, to):
        """The name is handed on in a letter to another house; tells the weight that goes with it, no letters."""
        if name[0] == self.house:
            put_to(self.outside, name, WHOLE)
            return (WHOLE, [])
        # Half stays: the name is still known here, whatever is handed on.
        weight = half_of(self.weight(name))
        take_from(self.inside, name, weight)
        return (weight, [])

    def got(self, name, extra):
        """The name came in a letter, with that weight."""
        if name[0] == self.house:
            take_from(self.outside, name, extra)
        else:
            put_to(self.inside, name, extra)

    def is_held(self, name):
        """Whether something is out of the own name."""
        return name[0] == self.house and name in self.outside

    def pinned(self):
        """By weights no name must be kept."""
        return ()

    def let_go(self, still):
        """Forgets the names of others that aren't among these; tells letters with their weights, rising by name."""
        kept = {name: True for name in still}
        leaving = [name for name in sorted(self.inside) if name not in kept]
        letters = [(name[0], ("back", name, self.inside[name])) for name in leaving]
        for name in leaving:
            del self.inside[name]
        return letters

    def take(self, sender, body):
        """Takes what another part said; tells no letters."""
        if body[0] == "back":
            take_from(self.outside, body[1], body[2])
        return []

    def lapse(self, now):
        """By weights no name lapses."""
        return ()

    def knows(self, name):
        """Whether some weight of a name of another house is here."""
        return name in self.inside

    def out(self, name):
        """What is out of an own name."""
        return self.outside.get(name, NOTHING)

    def weight(self, name):
        """What is here of another's name."""
        return self.inside.get(name, NOTHING)

    def copied(self):
        """The same once more, which goes its own way."""
        other = WeightPart(self.house)
        other.outside = weights_copied(self.outside)
        other.inside = weights_copied(self.inside)
        return other
