"""Texts: pictures and runs as rows of words and numbers."""

from heldafar.errors import NoPicture, NoText
from heldafar.pictures import is_number, is_sized, look_at_picture
from heldafar.steps import is_long_enough

MOST_FIGURES = 9
LARGEST = 999999999


def rows_of(text):
    """The rows of a text, in which each row, the last one too, has a row end."""
    rows = text.split("\n")
    if rows.pop() != "":
        raise NoText("the last row has no row end")
    return rows


def number_read(word):
    """The number that is written just so."""
    if not word.isascii() or not word.isdigit() or len(word) > MOST_FIGURES:
        raise NoText("this is no number")
    number = int(word)
    if str(number) != word:
        raise NoText("a nought stands ahead of a number")
    return number


def name_shown(name):
    """A name or None as a word."""
    if name is None:
        return "-"
    return f"{name[0]}:{name[1]}"


def row_shown(words, names):
    """A row of these words, then of the names."""
    return " ".join(words + [name_shown(name) for name in names]) + "\n"


def picture_shown(picture):
    """The picture as a text."""
    houses, letters = picture
    rows = [row_shown(["houses", str(len(houses))], ())]
    for house, (hands, things) in enumerate(houses):
        rows.append(row_shown(["house", str(house)], hands))
        for name, sort, fields in things:
            rows.append(row_shown([sort, name_shown(name)], fields))
    for sender, to, names in letters:
        rows.append(row_shown(["letter", str(sender), str(to)], names))
    return "".join(rows)


def name_read(word):
    """The name that a word shows, or None."""
    if word == "-":
        return None
    home, colon, number = word.partition(":")
    return (number_read(home), number_read(number))


def names_read(words):
    """A tuple of the names that the words show."""
    return tuple([name_read(word) for word in words])


def picture_of_rows(rows):
    """What rows of the right words tell; whether they are what picture_shown tells isn't looked at."""
    houses = []
    letters = []
    for row in rows:
        words = row.split(" ")
        word = words[0]
        if word == "house":
            houses.append((names_read(words[2:]), []))
        elif word in ("thing", "mark") and houses and len(words) > 1:
            houses[-1][1].append((name_read(words[1]), word, names_read(words[2:])))
        elif word == "letter" and len(words) > 2:
            letters.append((number_read(words[1]), number_read(words[2]), names_read(words[3:])))
        elif word != "houses":
            raise NoText("this is no row of a picture")
    return (tuple([(hands, tuple(things)) for hands, things in houses]), tuple(letters))


def picture_read(text):
    """The picture that the text shows."""
    picture = picture_of_rows(rows_of(text))
    try:
        look_at_picture(picture)
    except NoPicture:
        raise NoText("the text shows no picture") from None
    # Order, counts and house numbers of the rows were not looked at: showing it again tells all of them.
    if picture_shown(picture) != text:
        raise NoText("a picture isn't shown so")
    return picture


def number_shown(number):
    """A step's number as a word."""
    if not is_number(number) or not 0 <= number <= LARGEST:
        raise NoText("this is no number of a step")
    return str(number)


def plain_step_shown(step, at_house):
    """A step of a house, or of the world, as words."""
    if not isinstance(step, tuple) or len(step) == 0 or not isinstance(step[0], str):
        raise NoText("this is no step")
    if not is_long_enough(step, at_house):
        raise NoText("this is no step")
    return " ".join([step[0]] + [number_shown(number) for number in step[1:]])


def step_shown(step):
    """A step of a run as a row."""
    if is_sized(step, 3) and step[0] == "at":
        return f"at {number_shown(step[1])} {plain_step_shown(step[2], True)}\n"
    return plain_step_shown(step, False) + "\n"


def run_shown(steps):
    """The steps of a run as a text."""
    return "".join([step_shown(step) for step in steps])


def plain_step_read(words, at_house):
    """The step of a house, or of the world, that the words show."""
    if not is_long_enough(words, at_house):
        raise NoText("this is no step")
    return (words[0],) + tuple([number_read(word) for word in words[1:]])


def step_read(row):
    """The step of a run that the row shows."""
    words = row.split(" ")
    if words[0] != "at":
        return plain_step_read(words, False)
    if len(words) < 3:
        raise NoText("this is no step")
    return ("at", number_read(words[1]), plain_step_read(words[2:], True))


def run_read(text):
    """A list of the steps that the text shows."""
    return [step_read(row) for row in rows_of(text)]
