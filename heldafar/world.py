"""The world: houses, the packets between them, the time, and what each house wrote down last."""

from heldafar.errors import BadStep, FarError, IsHere, NoField, NoPacket, NotHere, NoThing, TooMany
from heldafar.house import WAYS, House
from heldafar.net import Net
from heldafar.pictures import MOST_HOUSES, is_house, is_number, is_sized
from heldafar.steps import is_step
from heldafar.views import picture_of

DONE = ("done",)


def do_save(world, step):
    """A house writes all down, and its packets are put."""
    world.save(step[1])
    return DONE


def do_fall(world, step):
    """A house is as it was written down last."""
    world.houses[step[1]] = world.saved[step[1]].copied()
    return DONE


def do_come(world, step):
    """A packet comes to its house."""
    return ("came", world.bring(step[1]))


def do_double(world, step):
    """A packet is under way once more."""
    world.net.double(step[1])
    return DONE


def do_lose(world, step):
    """A packet is lost."""
    world.net.lose(step[1])
    return DONE


def do_tick(world, step):
    """The time is one more."""
    world.tick()
    return DONE


def do_round(world, step):
    """All houses save and sweep, all packets come, and a tick; or nothing of it."""
    houses = [house.copied() for house in world.houses]
    saved = list(world.saved)
    net = world.net.copied()
    try:
        world.go_round()
    except FarError:
        world.houses[:] = houses
        world.saved = saved
        world.net = net
        raise
    # A tick changes what was written down, and is never refused: so it stands behind all that may be.
    world.tick()
    return DONE


WORLD_DOINGS = {
    "save": do_save, "fall": do_fall, "come": do_come, "double": do_double, "lose": do_lose, "tick": do_tick,
    "round": do_round,
}


class World:
    """Some houses, all by one way."""

    def __init__(self, many, way):
        if not is_number(many) or not 1 <= many <= MOST_HOUSES:
            raise BadStep("there are 1 to 8 houses")
        if not isinstance(way, str) or way not in WAYS:
            raise BadStep("there is no such way")
        self.houses = [House(number, many, way) for number in range(many)]
        self.saved = [house.copied() for house in self.houses]
        self.net = Net()
        self.time = 0
        self.answers = []

    def do(self, step):
        """Does a step; tells what comes of it, and keeps that, or how it was refused."""
        try:
            answer = self.outcome(step)
        except BadStep:
            self.answers.append(("refused", "BadStep"))
            raise
        except NoThing:
            self.answers.append(("refused", "NoThing"))
            raise
        except NotHere:
            self.answers.append(("refused", "NotHere"))
            raise
        except IsHere:
            self.answers.append(("refused", "IsHere"))
            raise
        except NoField:
            self.answers.append(("refused", "NoField"))
            raise
        except TooMany:
            self.answers.append(("refused", "TooMany"))
            raise
        except NoPacket:
            self.answers.append(("refused", "NoPacket"))
            raise
        self.answers.append(answer)
        return answer

    def outcome(self, step):
        """What comes of a step."""
        many = len(self.houses)
        if is_sized(step, 3) and isinstance(step[0], str) and step[0] == "at":
            if not is_house(step[1], many):
                raise BadStep("there is no such house")
            return self.houses[step[1]].do(step[2])
        if not is_step(step, None, many):
            raise BadStep("this is no step of the world")
        action = WORLD_DOINGS[step[0]]
        return action(self, step)

    def told(self):
        """A list of what came of all steps so far."""
        return list(self.answers)

    def picture(self):
        """All houses as they are, and the letters under way."""
        return picture_of(self.houses)

    def histories(self):
        """A tuple: for each house a tuple of its events."""
        return tuple([house.events() for house in self.houses])

    def save(self, number):
        """A house writes all down, and its packets are put; if they are too many, neither."""
        self.net.put(self.houses[number].mail.packets())
        self.saved[number] = self.houses[number].copied()

    def bring(self, place):
        """The packet at that place comes to its house; tells how many letters were heard."""
        self.net.look_at_place(place)
        packet = self.net.flying[place]
        heard = self.houses[packet[2]].take(packet)
        # Only now: what the house refuses stays under way.
        self.net.lose(place)
        return heard

    def tick(self):
        """The time is one more, for what was written down too."""
        self.time += 1
        for house in self.houses + self.saved:
            house.lapse(self.time)

    def save_and_bring_all(self):
        """All houses save, and all packets come."""
        for number in range(len(self.houses)):
            self.save(number)
        while self.net.flying:
            self.bring(0)

    def go_round(self):
        """A round without its tick."""
        self.save_and_bring_all()
        for house in self.houses:
            house.do(("sweep",))
        self.save_and_bring_all()


def run(many, way, steps):
    """Does all steps in a new world, and tells that."""
    world = World(many, way)
    for step in steps:
        try:
            world.do(step)
        except FarError:
            # The world itself tells how it was refused.
            continue
    return world
