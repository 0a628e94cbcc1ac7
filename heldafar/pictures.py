"""Pictures: all houses and the letters under way, as tuples."""

from heldafar.errors import NoPicture

MOST_HOUSES = 8
HANDS = 4
MOST_STILL = 6
MOST_THINGS = 40
MOST_FIELDS = 4
LAST_NUMBER = 99


def is_number(value):
    """Whether it is a whole number; True and False are none."""
    return isinstance(value, int) and not isinstance(value, bool)


def is_sized(value, size):
    """Whether it is a tuple of so many items."""
    return isinstance(value, tuple) and len(value) == size


def is_pair(value):
    """Whether it has the form of a name, with whatever numbers."""
    return is_sized(value, 2) and is_number(value[0]) and is_number(value[1])


def is_house(value, many):
    """Whether it is one of so many houses."""
    return is_number(value) and 0 <= value < many


def is_name(value, many):
    """Whether it is a name whose home is one of so many houses."""
    return is_pair(value) and is_house(value[0], many) and 0 <= value[1] <= LAST_NUMBER


def are_names(values, many):
    """Whether it is a tuple of names only."""
    return isinstance(values, tuple) and all(is_name(value, many) for value in values)


def are_fields(values, many):
    """Whether it is a tuple of names and None."""
    return isinstance(values, tuple) and all(value is None or is_name(value, many) for value in values)


def rises(values):
    """Whether each value is above the one before it."""
    return all(low < high for low, high in zip(values, values[1:]))


def are_hands(values, many):
    """Whether it is four names or None, and behind them what the house still has to tell."""
    if not isinstance(values, tuple) or not HANDS <= len(values) <= HANDS + MOST_STILL:
        return False
    return are_fields(values[:HANDS], many) and are_names(values[HANDS:], many)


def is_thing(value, home, many):
    """Whether it is a thing or a mark of that home."""
    if not is_sized(value, 3):
        return False
    name, sort, fields = value
    if not is_name(name, many) or name[0] != home or not are_fields(fields, many):
        return False
    if not isinstance(sort, str):
        return False
    if sort == "mark":
        return len(fields) == 1
    return sort == "thing" and len(fields) <= MOST_FIELDS


def are_things(values, home, many):
    """Whether it is a tuple of things of that home, rising by number."""
    if not isinstance(values, tuple) or len(values) > MOST_THINGS:
        return False
    if not all(is_thing(value, home, many) for value in values):
        return False
    return rises([thing[0] for thing in values])


def is_part(value, home, many):
    """Whether it is what a picture has of that house."""
    return is_sized(value, 2) and are_hands(value[0], many) and are_things(value[1], home, many)


def is_letter(value, many):
    """Whether it is what a picture has of a letter under way."""
    if not is_sized(value, 3):
        return False
    sender, to, names = value
    if not is_house(sender, many) or not is_house(to, many) or sender == to:
        return False
    return are_names(names, many) and len(names) > 0


def is_of_form(picture):
    """Whether it has the form of a picture, wherever its names may lead."""
    if not is_sized(picture, 2):
        return False
    houses, letters = picture
    if not isinstance(houses, tuple) or not isinstance(letters, tuple):
        return False
    many = len(houses)
    if not 1 <= many <= MOST_HOUSES:
        return False
    if not all(is_part(part, home, many) for home, part in enumerate(houses)):
        return False
    return all(is_letter(letter, many) for letter in letters)


def fields_by_name(picture):
    """A dict: for each thing's name, rising as houses and things do, its fields."""
    return {name: fields for hands, things in picture[0] for name, sort, fields in things}


def letter_names(picture):
    """A tuple of the names of each letter, in order."""
    return tuple([names for sender, to, names in picture[1]])


def pointers(picture):
    """All that hands, fields and letters have, None too, in the order in which they are looked at."""
    found = []
    for hands, things in picture[0]:
        found.extend(hands)
        for name, sort, fields in things:
            found.extend(fields)
    for names in letter_names(picture):
        found.extend(names)
    return found


def look_at_picture(picture):
    """Refuses what is no picture, and a picture with a name of no thing."""
    if not is_of_form(picture):
        raise NoPicture(-1, -1)
    fields = fields_by_name(picture)
    for name in pointers(picture):
        if name is not None and name not in fields:
            raise NoPicture(name[0], name[1])
