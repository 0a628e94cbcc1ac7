"""Pictures, parts and houses for the tests."""

import random

from heldafar.errors import FarError, NoThing
from heldafar.house import House
from heldafar.papers import cut_holds, pointed_holds, wanted_holds
from heldafar.world import World

NO_HANDS = (None, None, None, None)
# Names of no thing, where at most (0, 0) is one.
NO_THINGS = ((0, 1), (0, 100), (0, -1), (1, 0), (8, 0), (-1, 0), (10 ** 5000, 0), (0, 10 ** 5000), (False, 0),
             (0, False))
# What may be handed in for a number, and is none.
NO_NUMBERS = (True, False, None, "", "0", b"0", (), (0,), [0], {})


def thing(home, number, *fields):
    return ((home, number), "thing", fields)


def mark(home, number, field=None):
    return ((home, number), "mark", (field,))


def part(things=(), hands=(), still=()):
    """A house: its hands are filled up with None to four."""
    return (tuple(hands) + NO_HANDS[len(hands):] + tuple(still), tuple(things))


def picture(*parts, letters=()):
    return (parts, tuple(letters))


def one_house(*things, hands=()):
    return picture(part(things, hands))


def chain():
    """320 things in eight houses; each points to the next one, from house to house; a hand has the first."""
    names = [(home, number) for number in range(40) for home in range(8)]
    following = dict(zip(names, names[1:] + [None]))
    parts = [part([thing(home, number, following[(home, number)]) for number in range(40)],
                  [names[0]] if home == 0 else []) for home in range(8)]
    return picture(*parts), names


def ladder(rungs):
    """Two things on each rung, both with two ways to each of the next: 4 ** rungs ways to the last."""
    def pair(rung):
        return [(rung // 20, 2 * (rung % 20)), (rung // 20, 2 * (rung % 20) + 1)]
    things = [[] for home in range(8)]
    for rung in range(rungs):
        low, high = pair(rung + 1) if rung + 1 < rungs else (None, None)
        for name in pair(rung):
            things[name[0]].append((name, "thing", (high, low, high, low)))
    hands = pair(0)
    return picture(*[part(things[home], hands if home == 0 else []) for home in range(8)]), pair(rungs - 1)


def random_thing(source, name, names):
    if source.random() < 0.2:
        return (name, "mark", (source.choice(names + [None]),))
    fields = tuple(source.choice(names + [None] * 3) for place in range(source.randrange(5)))
    return (name, "thing", fields)


def random_letter(source, many, names):
    sender, to = source.sample(range(many), 2)
    return (sender, to, tuple(source.choice(names) for place in range(source.randint(1, 3))))


def random_picture(seed):
    """A small picture with few hands and letters, so that much can't be come to."""
    source = random.Random(seed)
    many = source.randint(1, 4)
    names = [(home, number) for home in range(many)
             for number in sorted(source.sample(range(100), source.randrange(5)))]
    parts = []
    for home in range(many):
        own = [random_thing(source, name, names) for name in names if name[0] == home]
        hands = [source.choice(names) if names and source.random() < 0.15 else None for place in range(4)]
        still = [source.choice(names) for place in range(source.choice([0, 0, 0, 1, 2]))] if names else []
        parts.append(part(own, hands, still))
    letters = []
    if many > 1 and names:
        letters = [random_letter(source, many, names) for place in range(source.choice([0, 0, 1, 2]))]
    return picture(*parts, letters=letters)


def all_names(told):
    """The names of all things of a picture, rising."""
    return sorted(entry[0] for hands, things in told[0] for entry in things)


def held(told):
    """The names that a hand or a letter points to."""
    houses, letters = told
    return ({name for hands, things in houses for name in hands if name is not None}
            | {name for sender, to, names in letters for name in names})


def slowly_come_to(told, names):
    """The words of the document, done over and over till nothing more comes."""
    found = set(names)
    before = None
    while found != before:
        before = set(found)
        for hands, things in told[0]:
            for name, sort, fields in things:
                if name in before:
                    found |= {field for field in fields if field is not None}
    return found


def slowly_reached(told):
    return tuple(sorted(slowly_come_to(told, held(told))))


def lets_by(told, paper):
    """Whether the checker of the paper's first word lets it by."""
    checkers = {"wanted": wanted_holds, "cut": cut_holds, "pointed": pointed_holds}
    return checkers[paper[0]](told, paper) is True


def ring(many, length):
    """A ring of so many things, each in the house behind the one before; a hand has none of them."""
    names = [(place % many, place // many) for place in range(length)]
    following = dict(zip(names, names[1:] + names[:1]))
    return picture(*[part([thing(*name, following[name]) for name in names if name[0] == home])
                     for home in range(many)])


class Neighbours:
    """Four houses that hand names to one another; what each wrote to another comes in order."""

    def __init__(self, seed, made):
        self.source = random.Random(seed)
        self.houses = range(4)
        self.parts = [made(house) for house in self.houses]
        self.has = [set() for house in self.houses]
        self.rows = {(sender, to): [] for sender in self.houses for to in self.houses if sender != to}
        # Each has an own name at first, which it may lose and be handed again.
        for house in self.houses:
            self.has[house].add((house, 0))

    def write(self, sender, letters):
        for to, body in letters:
            self.rows[(sender, to)].append(body)

    def hand_on(self):
        sender, to = self.source.sample(self.houses, 2)
        if self.has[sender]:
            name = self.source.choice(sorted(self.has[sender]))
            extra, letters = self.parts[sender].hand_on(name, to)
            # Either may be written first: they go to unlike houses.
            self.write(sender, [(to, ("hand", name, extra))] + letters)

    def drop(self):
        house = self.source.choice(self.houses)
        others = sorted(name for name in self.has[house] if name[0] != house)
        if others:
            self.has[house].discard(self.source.choice(others))

    def let_go(self, house):
        still = tuple(sorted(name for name in self.has[house] if name[0] != house))
        self.write(house, self.parts[house].let_go(still))

    def come(self, way):
        sender, to = way
        body = self.rows[way].pop(0)
        if body[0] == "hand":
            self.parts[to].got(body[1], body[2])
            self.has[to].add(body[1])
        else:
            self.write(to, self.parts[to].take(sender, body))

    def come_one(self):
        ways = [way for way in self.rows if self.rows[way]]
        if ways:
            self.come(self.source.choice(ways))

    def come_all(self):
        while any(self.rows.values()):
            self.come_one()

    def run(self, many, check):
        """So many steps, and a look behind each of them."""
        for step in range(many):
            word = self.source.choice(["hand_on", "drop", "let_go", "come", "come", "come"])
            if word == "hand_on":
                self.hand_on()
            elif word == "drop":
                self.drop()
            elif word == "let_go":
                self.let_go(self.source.choice(self.houses))
            else:
                self.come_one()
            check()

    def held_from_afar(self):
        """Names that another house than their home has, or a letter under way to another."""
        names = {name for house in self.houses for name in self.has[house] if name[0] != house}
        return names | {body[1] for row in self.rows.values() for body in row if body[0] == "hand"}


WAYS = ("lists", "weights", "leases")
# What stands beside a name in a letter, by each way: at time 0 no such lease is over.
EXTRAS = {"lists": 0, "weights": (1, 2), "leases": 8}


def pointer(way, home, number):
    return ((home, number), EXTRAS[way])


def part_state(part, many):
    """All that a part tells of any name."""
    names = [(home, number) for home in range(many) for number in range(100)]
    told = [(name, part.is_held(name), part.knows(name)) for name in names if part.is_held(name) or part.knows(name)]
    for method in ("told", "out", "weight", "lease"):
        if hasattr(part, method):
            told.append([getattr(part, method)(name) for name in names])
    return told, part.pinned()


def asks_told(house):
    """What all asks of a house were told."""
    answers = []
    try:
        while True:
            answers.append(house.told(len(answers)))
    except NoThing:
        return answers


def house_state(house):
    """All that a house tells."""
    return (house.hands(), house.still(), house.things(), house.events(), house.taken(), asks_told(house),
            house.mail.packets(), [house.mail.done(other) for other in range(house.many) if other != house.number],
            part_state(house.part, house.many))


def world_state(world):
    """All that a world tells of its houses, and what each would be behind a fall; not what came of its steps."""
    return ([house_state(house) for house in world.houses], [house_state(house) for house in world.saved],
            world.net.under_way(), world.time)


def fields_of(house, number):
    """Sort and fields of what stands there, or None."""
    for name, sort, fields in house.things():
        if name == (house.number, number):
            return sort, fields
    return None


def house_with(way, *sizes, number=0, many=3):
    """A house with things of so many fields, the first four of them in its hands; no letters."""
    house = House(number, many, way)
    for hand, size in enumerate(sizes):
        house.do(("make", hand, size))
    return house


def to_hand(house, hand, home, number):
    """A name of another house, or an own one, comes to a hand by a letter of the next house."""
    house.hear((house.number + 1) % house.many, ("hand", hand, pointer(house.way, home, number)))


def drawn_house_step(source, house):
    """A step that is often not refused; those that look at what is in hand are."""
    hands = house.hands()
    full = [hand for hand in range(4) if hands[hand] is not None]
    own = [hand for hand in full if hands[hand][0] == house.number]
    others = [hand for hand in full if hands[hand][0] != house.number]
    away = [other for other in range(house.many) if other != house.number]

    def numbers(*choices):
        return tuple(source.choice(choice) for choice in choices)
    any_hand, fields = range(4), (0, 0, 1, 1, 2)
    forms = [("make", (any_hand, (1, 2, 2, 3))), ("drop", (any_hand,)), ("copy", (any_hand, any_hand)),
             ("put", (own, fields, any_hand)), ("take", (own, fields, any_hand)), ("send", (any_hand, away, any_hand)),
             ("send", (full, away, any_hand)), ("send", (full, away, any_hand)), ("put", (own, fields, full)),
             ("ask", (others, fields, any_hand)), ("ask", (others, fields, any_hand)),
             ("tell", (others, fields, any_hand)), ("tell", (others, fields, full)), ("move", (own, away)),
             ("move", (own, away)), ("sweep", ()), ("picture", ()), ("free", (range(3),))]
    word, choices = source.choice([form for form in forms if all(form[1])])
    return (word,) + numbers(*choices)


def drawn_step(source, world):
    """A step of a run with falls, losses and doubled packets; packets come in any order."""
    houses, packets = range(len(world.houses)), range(max(1, len(world.net.under_way())))
    kinds = {"at": 50, "save": 18, "come": 24, "fall": 3, "double": 2, "lose": 2, "tick": 4, "round": 2}
    word = source.choices(list(kinds), list(kinds.values()))[0]
    if word == "at":
        house = source.choice(houses)
        return ("at", house, drawn_house_step(source, world.houses[house]))
    if word in ("save", "fall"):
        return (word, source.choice(houses))
    if word in ("come", "double", "lose"):
        return (word, source.choice(packets))
    return (word,)


def do_gently(world, step):
    """Does a step; whether it was refused the world tells."""
    try:
        world.do(step)
    except FarError:
        pass


def drawn_steps(seed, way, length, many=3):
    """So many steps of a run."""
    source, world, steps = random.Random(seed), World(many, way), []
    for place in range(length):
        steps.append(drawn_step(source, world))
        do_gently(world, steps[-1])
    return steps


def steps_of_round(world):
    """The steps of a round one by one; each is to be done ahead of the next."""
    houses = range(len(world.houses))
    for sweeps in (False, True):
        if sweeps:
            yield from [("at", house, ("sweep",)) for house in houses]
        yield from [("save", house) for house in houses]
        while world.net.under_way():
            yield ("come", 0)
    yield ("tick",)
