"""Asks: what a house asked, told or moved and what came of it, and how a home answers."""

from heldafar.errors import NoThing
from heldafar.pictures import is_number


def answer_of(entry, field):
    """The word and the name that a home answers; entry is what stands there, its sort and fields, or None."""
    if entry is None:
        return ("gone", None)
    sort, fields = entry
    if sort == "mark":
        if fields[0] is None:
            return ("gone", None)
        return ("mark", fields[0])
    if field >= len(fields):
        return ("none", None)
    return ("value", fields[field])


def told_here(room, name, field, new):
    """What a home answers to a tell; where there is such a field, it has the new name from now on."""
    word, found = answer_of(room.entry(name), field)
    if word != "value":
        return (word, found)
    room.fill(name, field, new)
    return ("done", None)


class Ask:
    """An ask, a tell or a move that waits."""

    def __init__(self, word, asked, field, given):
        self.word = word
        # The name in hand; behind an answer "mark" the one that is asked now.
        self.asked = asked
        self.field = field
        # Of an ask the hand that gets the value, of a tell what it tells, of a move the fields as they were.
        self.given = given

    def copied(self):
        """The same once more, which goes its own way."""
        return Ask(self.word, self.asked, self.field, self.given)


class Asks:
    """All asks of a house by number, and those among them that wait."""

    def __init__(self):
        # What each was told, None of those that wait.
        self.answers = []
        self.waiting = {}

    def begin(self, ask):
        """One more ask waits; tells its number."""
        number = len(self.answers)
        self.answers.append(None)
        self.waiting[number] = ask
        return number

    def waits(self, number):
        """The ask of that number, or None where none waits."""
        return self.waiting.get(number)

    def finish(self, number, answer):
        """The ask of that number, which waited, is told this."""
        self.answers[number] = answer
        del self.waiting[number]

    def answer_to(self, number):
        """What the ask of that number was told, None while it waits."""
        if not is_number(number) or not 0 <= number < len(self.answers):
            raise NoThing("no ask has this number")
        return self.answers[number]

    def tells(self):
        """A list of the tells that wait, in the order of their numbers."""
        return [ask for ask in self.waiting.values() if ask.word == "tell"]

    def still_told(self):
        """A tuple of the names that are still to be told, in the order of the asks."""
        return tuple([ask.given for ask in self.tells() if ask.given is not None])

    def exchange(self, old, new):
        """Whatever is still to be told and has the old name has the new one, or None."""
        for ask in self.tells():
            if ask.given == old:
                ask.given = new

    def copied(self):
        """The same once more, which goes its own way."""
        other = Asks()
        other.answers = list(self.answers)
        other.waiting = {number: ask.copied() for number, ask in self.waiting.items()}
        return other


def pose(house, number, ask):
    """Writes an ask, or a tell, to the home of the name that is asked."""
    to = ask.asked[0]
    pointer = house.handed(ask.asked, to)
    if ask.word == "ask":
        house.mail.write(to, ("ask", number, pointer, ask.field))
    else:
        house.mail.write(to, ("tell", number, pointer, ask.field, house.handed(ask.given, to)))


def posed_here(house, ask):
    """The answer to an ask, or a tell, of a name of this house itself."""
    if ask.word == "ask":
        return answer_of(house.room.entry(ask.asked), ask.field)
    return told_here(house.room, ask.asked, ask.field, ask.given)


def end_ask(house, number, ask, word, name):
    """The ask, or the tell, waits no more."""
    if ask.word == "ask" and word == "value":
        house.room.grips[ask.given] = name
        house.asks.finish(number, ("value", name))
    else:
        house.asks.finish(number, (word,))


def follow(house, number, ask, word, name):
    """Does what the answer to an ask, or a tell, says: from a mark it goes on to what that has."""
    while word == "mark" and name is not None:
        house.exchange(ask.asked, name)
        ask.asked = name
        if name[0] != house.number:
            pose(house, number, ask)
            return
        word, name = posed_here(house, ask)
    # A mark of nothing, and one whose pointer lapsed on its way here, leads nowhere.
    end_ask(house, number, ask, "gone" if word == "mark" else word, name)


def end_move(house, number, ask, word, name):
    """The thing becomes a mark of the new one, if that came and has all that it has; else it is kept."""
    # A thing that were a mark of itself would lead round for ever: its own name is no new one.
    came = word == "value" and name is not None and name != ask.asked
    if came and house.room.entry(ask.asked) == ("thing", ask.given):
        house.room.become_mark(ask.asked, name)
        house.exchange(ask.asked, name)
        house.asks.finish(number, ("value", name))
    else:
        house.asks.finish(number, ("kept",))
