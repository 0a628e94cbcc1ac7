"""Papers found: why a name is still wanted, or why it may go."""

from heldafar.errors import NoThing
from heldafar.pictures import fields_by_name, is_pair, letter_names
from heldafar.reach import come_to, pointing, starts


def things_fields(picture, name):
    """The fields of all things by name, if name is one of a thing."""
    fields = fields_by_name(picture)
    if not is_pair(name) or name not in fields:
        raise NoThing("no thing has this name")
    return fields


def first_field(row, needed, many):
    """The first field with a name from which so many steps are needed."""
    return min([field for field, name in enumerate(row) if name in needed and needed[name] == many])


def fewest_steps(fields, needed, first):
    """The steps that are needed from the first name on; of several ways the first one."""
    steps = []
    at = first
    # All ways to here begin alike, so that the least field goes ahead of the others.
    for many in reversed(range(needed[first])):
        field = first_field(fields[at], needed, many)
        steps.append((at, field))
        at = fields[at][field]
    return tuple(steps)


def nearest_way(fields, leading, name):
    """Of these pairs of a start and its name the first with the fewest steps to name: start and steps; or None."""
    # Going back from name tells how far off each thing is; going all ways from the starts would not end in time.
    needed = come_to(pointing(fields), [name])
    near = [(start, first) for start, first in leading if first in needed]
    if not near:
        return None
    # Of several least ones min tells the first, and starts come in their order.
    start, first = min(near, key=lambda pair: needed[pair[1]])
    return (start, fewest_steps(fields, needed, first))


def wanted_for(picture, name):
    """The first wanted paper of name with the fewest steps, or None."""
    way = nearest_way(things_fields(picture, name), starts(picture), name)
    if way is None:
        return None
    start, steps = way
    return ("wanted", name, start, steps)


def cut_of(picture, names):
    """The cut of these names, which rise."""
    return ("cut", tuple(names), letter_names(picture))


def cut_for(picture):
    """The cut of all that can't be come to, or None where there is nothing."""
    fields = fields_by_name(picture)
    found = come_to(fields, [name for start, name in starts(picture)])
    names = [name for name in fields if name not in found]
    if not names:
        return None
    return cut_of(picture, names)


def why(picture, name):
    """Why name is still wanted, or else why it may go."""
    paper = wanted_for(picture, name)
    if paper is None:
        return cut_for(picture)
    return paper
