"""What a house does at each step of its program, and at each step of its own."""

from heldafar.asking import Ask, pose
from heldafar.errors import IsHere, NoField, NotHere, NoThing, TooMany
from heldafar.pictures import MOST_STILL
from heldafar.reach import come_to
from heldafar.reasons import cut_for

DONE = ("done",)


def name_in(house, hand):
    """The name that a hand has."""
    name = house.room.grips[hand]
    if name is None:
        raise NoThing("the hand is empty")
    return name


def own_name_in(house, hand):
    """The name that a hand has, of a thing here."""
    name = name_in(house, hand)
    if name[0] != house.number:
        raise NotHere("the home of the name is another house")
    return name


def others_name_in(house, hand):
    """The name that a hand has, of another house."""
    name = name_in(house, hand)
    if name[0] == house.number:
        raise IsHere("the home of the name is this house")
    return name


def look_at_field(house, name, field):
    """Refuses a field that the thing doesn't have."""
    if field >= len(house.room.entry(name)[1]):
        raise NoField("the thing has no such field")


def do_make(house, step):
    """A thing more, which the hand has."""
    word, hand, many = step
    if not house.room.has_space():
        raise TooMany("no thing more can be made here")
    name = house.room.make([None for field in range(many)])
    house.room.grips[hand] = name
    return ("made", name)


def do_copy(house, step):
    """The other hand has what the hand has."""
    word, hand, other = step
    house.room.grips[other] = house.room.grips[hand]
    return DONE


def do_drop(house, step):
    """The hand is empty."""
    word, hand = step
    house.room.grips[hand] = None
    return DONE


def do_put(house, step):
    """The thing's field has what the other hand has."""
    word, hand, field, other = step
    name = own_name_in(house, hand)
    look_at_field(house, name, field)
    house.room.fill(name, field, house.room.grips[other])
    return DONE


def do_take(house, step):
    """The other hand has what the thing's field has."""
    word, hand, field, other = step
    name = own_name_in(house, hand)
    look_at_field(house, name, field)
    house.room.grips[other] = house.room.entry(name)[1][field]
    return DONE


def do_send(house, step):
    """What the hand has goes to a hand of another house."""
    word, hand, to, other = step
    house.mail.write(to, ("hand", other, house.handed(house.room.grips[hand], to)))
    return DONE


def begin(house, ask):
    """Asks, or tells, for the first time."""
    number = house.asks.begin(ask)
    pose(house, number, ask)
    return ("asked", number)


def do_ask(house, step):
    """Asks the home of a name for a field of the thing."""
    word, hand, field, other = step
    return begin(house, Ask("ask", others_name_in(house, hand), field, other))


def do_tell(house, step):
    """Tells the home of a name what a field of the thing is to have."""
    word, hand, field, other = step
    name = others_name_in(house, hand)
    if len(house.asks.tells()) == MOST_STILL:
        raise TooMany("as many tells wait as may")
    return begin(house, Ask("tell", name, field, house.room.grips[other]))


def do_move(house, step):
    """Asks another house to build the thing there."""
    word, hand, to = step
    name = own_name_in(house, hand)
    fields = house.room.entry(name)[1]
    number = house.asks.begin(Ask("move", name, 0, fields))
    pointers = tuple([house.handed(field, to) for field in fields])
    house.mail.write(to, ("build", number, pointers))
    return ("asked", number)


def do_sweep(house, step):
    """Takes up what can't be come to here, and lets go of names that nothing here has."""
    room = house.room
    wanted = [name for name in house.hands() + house.still() if name is not None]
    wanted.extend([name for name in room.entries if house.part.is_held(name)])
    found = come_to(room.pointed(), wanted)
    names = tuple([name for name in room.entries if name not in found])
    room.take_up(names)
    # Whatever hands, things and marks still have was come to: all that stands was, and its fields with it.
    others = tuple(sorted([name for name in found if name[0] != house.number]))
    house.write_all(house.part.let_go(others))
    return ("swept", names)


def do_picture(house, step):
    """Begins to take a picture of all houses."""
    number = house.takings.wish()
    house.note_part((house.number, number))
    return ("picture", number)


def do_free(house, step):
    """Frees what can't be come to in a picture that is complete, wherever it is at home."""
    word, number = step
    picture = house.takings.picture_of(number)
    if picture is None:
        raise NoThing("no such picture is complete")
    cut = cut_for(picture)
    names = () if cut is None else cut[1]
    for home in range(house.many):
        freed = tuple([name for name in names if name[0] == home])
        if home == house.number:
            house.room.free(freed)
        elif freed:
            house.mail.write(home, ("free", freed))
    return ("freed", names)


DOINGS = {
    "make": do_make, "copy": do_copy, "drop": do_drop, "put": do_put, "take": do_take, "send": do_send,
    "ask": do_ask, "tell": do_tell, "move": do_move, "sweep": do_sweep, "picture": do_picture, "free": do_free,
}
