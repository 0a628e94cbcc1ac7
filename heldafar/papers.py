"""The checkers: whether a paper is true of a picture. They seek nothing."""

from heldafar.pictures import fields_by_name, is_number, is_pair, is_sized, letter_names, rises


def is_paper(paper, word, size):
    """Whether it is a paper of that first word."""
    return is_sized(paper, size) and paper[0] == word


def item_at(row, place):
    """What stands at that place of the row, or None where the row has no such place."""
    if is_number(place) and 0 <= place < len(row):
        return row[place]
    return None


def start_name(picture, start):
    """The name that the told hand or letter has, or None."""
    if not is_sized(start, 3):
        return None
    word, row, place = start
    rows = ()
    if word == "hand":
        rows = [hands for hands, things in picture[0]]
    elif word == "letter":
        rows = letter_names(picture)
    return item_at(item_at(rows, row) or (), place)


def field_name(fields, names, start):
    """The name that the told field of a thing outside of the names has, or None."""
    word, thing, field = start
    if not is_pair(thing) or thing in names or thing not in fields:
        return None
    return item_at(fields[thing], field)


def are_steps(steps):
    """Whether these are steps, each of a name and a field, that may be wrong."""
    return isinstance(steps, tuple) and all(is_sized(step, 2) and is_pair(step[0]) for step in steps)


def way_holds(fields, first, steps, name):
    """Whether the steps lead from the first name to name; from None they lead nowhere."""
    at = first
    for thing, field in steps:
        if thing != at:
            return False
        at = item_at(fields[at], field)
    return at == name


def wanted_holds(picture, paper):
    """Whether the wanted paper is true of the picture."""
    if not is_paper(paper, "wanted", 4):
        return False
    name, start, steps = paper[1:]
    if not is_pair(name) or not are_steps(steps):
        return False
    return way_holds(fields_by_name(picture), start_name(picture, start), steps, name)


def are_things_names(fields, names):
    """Whether it is a tuple of things' names, rising, each once."""
    if not isinstance(names, tuple) or not all(is_pair(name) and name in fields for name in names):
        return False
    return rises(names)


def are_letters(picture, letters):
    """Whether these are the names of all letters of the picture."""
    if letters != letter_names(picture):
        return False
    # True and 1 are alike to Python, so that equal names may still be none.
    return all(is_pair(name) for names in letters for name in names)


def is_held_by_hand_or_letter(picture, names):
    """Whether a hand or a letter points to one of the names."""
    rows = [hands for hands, things in picture[0]]
    rows.extend(letter_names(picture))
    return any(name in names for row in rows for name in row)


def is_held_by_other_thing(fields, names):
    """Whether a field of a thing that isn't one of the names points to one of them."""
    return any(other in names for name in fields if name not in names for other in fields[name])


def is_closed(fields, names):
    """Whether each field of the names' things has one of them or None."""
    return all(other is None or other in names for name in names for other in fields[name])


def cut_holds(picture, paper):
    """Whether the cut is true of the picture."""
    if not is_paper(paper, "cut", 3):
        return False
    told, letters = paper[1:]
    fields = fields_by_name(picture)
    if not are_things_names(fields, told) or len(told) == 0 or not are_letters(picture, letters):
        return False
    names = {name: True for name in told}
    return not is_held_by_hand_or_letter(picture, names) and not is_held_by_other_thing(fields, names)


def pointed_holds(picture, paper):
    """Whether the pointed paper is true of the picture."""
    if not is_paper(paper, "pointed", 5):
        return False
    name, told, start, steps = paper[1:]
    fields = fields_by_name(picture)
    if not is_pair(name) or not are_things_names(fields, told) or not are_steps(steps):
        return False
    names = {thing: True for thing in told}
    if name not in names or not is_closed(fields, names):
        return False
    if not all(thing in names for thing, field in steps):
        return False
    if is_sized(start, 3) and start[0] == "field":
        return way_holds(fields, field_name(fields, names, start), steps, name)
    return way_holds(fields, start_name(picture, start), steps, name)
