"""What can be come to on a picture, and by what it is pointed to."""

from heldafar.pictures import fields_by_name, letter_names


def starts(picture):
    """Pairs of a start and its name, of all hands that aren't empty and all letters, in their order."""
    found = []
    for house, (hands, things) in enumerate(picture[0]):
        for place, name in enumerate(hands):
            if name is not None:
                found.append((("hand", house, place), name))
    for letter, names in enumerate(letter_names(picture)):
        for place, name in enumerate(names):
            found.append((("letter", letter, place), name))
    return found


def come_to(pointed, names):
    """A dict of these names and of all that can be come to from them, with how many steps each takes.

    Names that aren't among the pointed ones lead nowhere: a house knows no more of those of others.
    """
    found = {}
    layer = names
    many = 0
    while layer:
        coming = []
        for name in layer:
            if name not in found:
                found[name] = many
                coming.extend([other for other in pointed.get(name, ()) if other is not None])
        layer = coming
        many += 1
    return found


def pointing(fields):
    """A dict: for each thing's name those of the things that have it in a field."""
    found = {name: [] for name in fields}
    for name in fields:
        for other in fields[name]:
            if other is not None:
                found[other].append(name)
    return found


def reached(picture):
    """A tuple of the names that can be come to, rising."""
    held = [name for start, name in starts(picture)]
    return tuple(sorted(come_to(fields_by_name(picture), held)))
