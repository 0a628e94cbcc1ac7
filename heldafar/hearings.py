"""What a house does at each letter that it hears."""

from heldafar.asking import answer_of, end_move, follow, told_here


def reply(house, to, number, word, name):
    """Writes an answer, with a pointer to what it names."""
    house.mail.write(to, ("answer", number, word, house.handed(name, to)))


def hear_hand(house, sender, body):
    """A hand gets what was sent."""
    word, hand, pointer = body
    house.room.grips[hand] = house.settled(pointer)


def hear_ask(house, sender, body):
    """Tells what a field of a thing here has."""
    word, number, pointer, field = body
    answer, name = answer_of(house.room.entry(house.came(pointer)), field)
    reply(house, sender, number, answer, name)


def hear_tell(house, sender, body):
    """A field of a thing here has what is told."""
    word, number, pointer, field, given = body
    asked = house.came(pointer)
    answer, name = told_here(house.room, asked, field, house.settled(given))
    reply(house, sender, number, answer, name)


def hear_build(house, sender, body):
    """Makes a thing here with what another one has."""
    word, number, pointers = body
    fields = [house.settled(pointer) for pointer in pointers]
    if house.room.has_space():
        reply(house, sender, number, "value", house.room.make(fields))
    else:
        reply(house, sender, number, "none", None)


def hear_answer(house, sender, body):
    """An ask is told what came of it."""
    word, number, answer, pointer = body
    name = house.settled(pointer)
    ask = house.asks.waits(number)
    # What an ask was told stays: to one that doesn't wait nothing is said any more.
    if ask is None:
        return
    if ask.word == "move":
        end_move(house, number, ask, answer, name)
    else:
        follow(house, number, ask, answer, name)


def hear_free(house, sender, body):
    """Frees things that can't be come to."""
    word, names = body
    house.room.free(names)


def hear_picture(house, sender, body):
    """Notes the part of this house, if this is the first word of that picture; no more letters of the sender."""
    word, asker, number = body
    key = (asker, number)
    if not house.takings.is_begun(key):
        house.note_part(key)
    house.takings.close(key, sender)
    house.send_part(key)


def hear_part(house, sender, body):
    """A part of an own picture has come."""
    word, asker, number, noted, letters, count = body
    house.takings.gather(number, sender, (noted, letters, count))


HEARINGS = {
    "hand": hear_hand, "ask": hear_ask, "tell": hear_tell, "build": hear_build, "answer": hear_answer,
    "free": hear_free, "picture": hear_picture, "part": hear_part,
}
