"""Replay: a run done again from the histories of its houses, and held against a picture that was taken."""

from heldafar.errors import FarError
from heldafar.house import House
from heldafar.pictures import is_number, is_of_form, is_sized
from heldafar.views import picture_of


def do_step(house, step):
    """Whether the house could do the step."""
    try:
        house.do(step)
    except FarError:
        return False
    return True


def do_letter(houses, house, sender, number):
    """Whether the house could hear that letter: it is written, and the next one of its sender."""
    if not house.mail.is_other(sender) or not is_number(number) or number != house.mail.done(sender):
        return False
    bodies = houses[sender].mail.kept[house.number]
    if number >= len(bodies):
        return False
    house.take(("letter", sender, house.number, number, bodies[number]))
    return True


def do_event(houses, house, event):
    """Whether the house could do the event."""
    if is_sized(event, 2) and event[0] == "step":
        return do_step(house, event[1])
    if is_sized(event, 3) and event[0] == "heard":
        return do_letter(houses, house, event[1], event[2])
    return False


def play(houses, histories, counts):
    """Each house goes on to its first so many events; whether all of them could be done."""
    going = True
    while going:
        going = False
        for house, history, count in zip(houses, histories, counts):
            while len(house.history) < count and do_event(houses, house, history[len(house.history)]):
                going = True
    return all(len(house.history) == count for house, count in zip(houses, counts))


def are_counts(many, histories, counts):
    """Whether it is one count for each house, from 0 to its events."""
    if len(histories) != many or len(counts) != many:
        return False
    return all(is_number(count) and 0 <= count <= len(history) for count, history in zip(counts, histories))


def houses_at(many, way, histories, counts):
    """The houses behind their first so many events, or None where some can't be done."""
    if not are_counts(many, histories, counts):
        return None
    houses = [House(number, many, way) for number in range(many)]
    if not play(houses, histories, counts):
        return None
    return houses


def picture_at(many, way, histories, counts):
    """The picture when each house has done its first so many events, or None where some can't be done."""
    houses = houses_at(many, way, histories, counts)
    if houses is None:
        return None
    return picture_of(houses)


def taken_holds(many, way, histories, counts, picture):
    """Whether the run was in that picture behind so many events, or could have been, and all others can follow."""
    houses = houses_at(many, way, histories, counts)
    if houses is None or not is_of_form(picture) or picture_of(houses) != picture:
        return False
    return play(houses, histories, [len(history) for history in histories])
