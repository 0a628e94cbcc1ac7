"""Steps: the forms that the steps of houses and of the world have."""

from heldafar.pictures import HANDS, MOST_FIELDS, is_house, is_number

# What the numbers behind the word of a step tell: of a house's own steps, and of the world's.
HOUSE_STEPS = {
    "make": ("hand", "size"), "copy": ("hand", "hand"), "drop": ("hand",),
    "put": ("hand", "field", "hand"), "take": ("hand", "field", "hand"), "send": ("hand", "other", "hand"),
    "ask": ("hand", "field", "hand"), "tell": ("hand", "field", "hand"), "move": ("hand", "other"),
    "sweep": (), "picture": (), "free": ("number",),
}
WORLD_STEPS = {
    "save": ("house",), "fall": ("house",), "come": ("place",), "double": ("place",), "lose": ("place",),
    "tick": (), "round": (),
}


def kinds_behind(word, at_house):
    """What the numbers behind a step's word tell, or None where there is no such step."""
    if at_house:
        return HOUSE_STEPS.get(word)
    return WORLD_STEPS.get(word)


def is_long_enough(step, at_house):
    """Whether it begins with a step's word and has as many items behind it as such a step."""
    kinds = kinds_behind(step[0], at_house)
    return kinds is not None and len(step) == len(kinds) + 1


def fits(number, kind, house, many):
    """Whether it is a number of that kind, in a step of that house."""
    if not is_number(number):
        return False
    if kind == "hand":
        return 0 <= number < HANDS
    if kind == "field":
        return 0 <= number < MOST_FIELDS
    if kind == "size":
        return 0 <= number <= MOST_FIELDS
    if kind == "number":
        return number >= 0
    if kind == "place":
        # Whether a packet is there, the net tells.
        return True
    return is_house(number, many) and number != house


def is_step(step, house, many):
    """Whether it is a step of that house, one of so many, or of the world where the house is None."""
    if not isinstance(step, tuple) or len(step) == 0 or not isinstance(step[0], str):
        return False
    at_house = house is not None
    if not is_long_enough(step, at_house):
        return False
    kinds = kinds_behind(step[0], at_house)
    return all(fits(number, kind, house, many) for number, kind in zip(step[1:], kinds))
