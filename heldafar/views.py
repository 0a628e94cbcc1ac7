"""A view of all houses at once, as they are."""

from heldafar.letters import names_in


def bodies_undone(sender, to):
    """The bodies of the letters that one house wrote to another and that aren't done there."""
    bodies = sender.mail.unowned(to.number)
    owned = sender.mail.written(to.number) - len(bodies)
    return bodies[max(0, to.mail.done(sender.number) - owned):]


def letters_undone(sender, to):
    """The letters of one house to another that aren't done there and point to something, as in pictures."""
    found = [names_in(body, to.part) for body in bodies_undone(sender, to)]
    return [(sender.number, to.number, names) for names in found if names]


def picture_of(houses):
    """The picture of these houses, and of the letters that aren't done."""
    letters = []
    for to in houses:
        for sender in houses:
            if sender.number != to.number:
                letters.extend(letters_undone(sender, to))
    return (tuple([house.pictured() for house in houses]), tuple(letters))
