import copy
import unittest

from heldafar.errors import NoText
from heldafar.pictures import look_at_picture
from heldafar.texts import picture_read, picture_shown
from tests.helper import chain, ladder, mark, one_house, part, picture, random_picture, thing

FULL = picture(
    part([thing(0, 0), thing(0, 3, (1, 10), None, (0, 3), (0, 0)), mark(0, 99)],
         [None, (0, 0), None, (1, 10)], [(0, 3), (1, 11)]),
    part([mark(1, 10, (0, 99)), thing(1, 11, None)]),
    part(),
    letters=[(0, 2, ((1, 10),)), (2, 1, ((0, 0), (0, 99), (0, 0)))],
)
FULL_ROWS = [
    "houses 3",
    "house 0 - 0:0 - 1:10 0:3 1:11",
    "thing 0:0",
    "thing 0:3 1:10 - 0:3 0:0",
    "mark 0:99 -",
    "house 1 - - - -",
    "mark 1:10 0:99",
    "thing 1:11 -",
    "house 2 - - - -",
    "letter 0 2 1:10",
    "letter 2 1 0:0 0:99 0:0",
]


def text_of(rows):
    return "".join(row + "\n" for row in rows)


class ShownTest(unittest.TestCase):
    def test_row_by_row(self):
        self.assertEqual(picture_shown(FULL), text_of(FULL_ROWS))

    def test_the_smallest(self):
        self.assertEqual(picture_shown(one_house()), "houses 1\nhouse 0 - - - -\n")

    def test_eight_houses(self):
        told = picture(*[part() for home in range(8)])
        rows = ["houses 8"] + [f"house {home} - - - -" for home in range(8)]
        self.assertEqual(picture_shown(told), text_of(rows))

    def test_read_tells_an_equal_picture(self):
        told = [FULL, one_house(), chain()[0], ladder(160)[0]] + [random_picture(seed) for seed in range(200)]
        for one in told:
            before = copy.deepcopy(one)
            text = picture_shown(one)
            self.assertEqual(picture_read(text), one)
            self.assertEqual(one, before)
            self.assertEqual(picture_shown(one), text)
            self.assertIsNone(look_at_picture(picture_read(text)))


class NoTextTest(unittest.TestCase):
    def refused(self, text):
        with self.subTest(text=text):
            with self.assertRaises(NoText):
                picture_read(text)

    def test_the_text_itself_is_read(self):
        self.assertEqual(picture_read(text_of(FULL_ROWS)), FULL)

    def test_rows_left_out(self):
        for place, row in enumerate(FULL_ROWS):
            # A thing that is pointed to, a house or the first row; the others leave a picture.
            if row != "house 2 - - - -" and not row.startswith("letter"):
                self.refused(text_of(FULL_ROWS[:place] + FULL_ROWS[place + 1:]))

    def test_rows_left_out_that_nothing_points_to(self):
        self.refused(text_of(FULL_ROWS[:8] + FULL_ROWS[9:]))
        self.refused("house 0 - - - -\n")
        self.refused("houses 1\n")
        self.refused("houses 2\nhouse 0 - - - -\n")
        self.refused("houses 2\nhouse 1 - - - -\n")
        self.refused("houses 1\nthing 0:0\n")
        self.refused("thing 0:0\nhouses 1\nhouse 0 - - - -\n")

    def test_rows_twice(self):
        for place in range(9):
            self.refused(text_of(FULL_ROWS[:place] + [FULL_ROWS[place]] + FULL_ROWS[place:]))

    def test_rows_out_of_order(self):
        for place in range(9):
            turned = list(FULL_ROWS)
            turned[place], turned[place + 1] = turned[place + 1], turned[place]
            self.refused(text_of(turned))
        self.refused(text_of(FULL_ROWS[1:] + FULL_ROWS[:1]))
        self.refused(text_of(FULL_ROWS[:1] + FULL_ROWS[9:] + FULL_ROWS[1:9]))
        self.refused("houses 1\nhouse 0 - - - -\nhouses 1\n")

    def test_row_ends(self):
        text = text_of(FULL_ROWS)
        self.refused(text[:-1])
        self.refused(text + "\n")
        self.refused("\n" + text)
        self.refused(text.replace("\nthing", "\n\nthing", 1))
        self.refused(text.replace("\nthing", " thing", 1))
        self.refused(text.replace("\n", "\r\n"))
        self.refused(text.replace("\n", "\r"))
        self.refused(text.replace("\n", "\x0b"))

    def test_blanks_and_tabs(self):
        text = text_of(FULL_ROWS)
        self.refused(" " + text)
        self.refused(text + " ")
        self.refused(text.replace("\n", " \n", 1))
        self.refused(text.replace("\n", "\n ", 1))
        for place in range(text.count(" ")):
            pieces = text.split(" ")
            for between in ("  ", "\t", " \t", "", "\u00a0"):
                turned = " ".join(pieces[:place + 1]) + between + " ".join(pieces[place + 1:])
                self.refused(turned)

    def test_noughts_ahead(self):
        for old, new in (("houses 3", "houses 03"), ("house 1", "house 01"), ("thing 0:3 ", "thing 0:03 "),
                         ("thing 0:3 ", "thing 00:3 "), (" 1:10 0:3 ", " 01:10 0:3 "), ("letter 0 2", "letter 00 2"),
                         ("letter 0 2", "letter 0 02"), ("2 1 0:0", "2 1 00:0"), ("2 1 0:0", "2 1 0:00")):
            self.changed(old, new)

    def changed(self, old, new):
        text = text_of(FULL_ROWS)
        self.assertIn(old, text)
        self.refused(text.replace(old, new, 1))

    def test_capital_letters_and_other_words(self):
        for old, new in (("houses", "Houses"), ("house 1", "House 1"), ("thing", "THING"), ("mark", "Mark"),
                         ("letter", "Letter"), ("houses", "house"), ("house 1", "houses 1"), ("house 1", "home 1"),
                         ("thing 0:3", "things 0:3"), ("mark 1:10", "thin 1:10"), ("letter", "letters"),
                         ("letter", "-"), ("thing 0:0", "")):
            self.changed(old, new)

    def test_numbers_and_names(self):
        for old, new in (("houses 3", "houses"), ("houses 3", "houses 2"), ("houses 3", "houses 4"),
                         ("houses 3", "houses 3 -"), ("houses 3", "houses three"), ("houses 3", "houses +3"),
                         ("house 1", "house"), ("house 1", "house 2"), ("house 1", "house -"), ("house 1", "house -1"),
                         ("house 1 -", "house -"), ("letter 0 2", "letter 0"), ("letter 0 2 1:10", "letter 0 2"),
                         ("letter 0 2 1:10", "letter"), ("letter 0 2", "letter - 2"), ("letter 0 2", "letter 0 0"),
                         ("letter 0 2", "letter 0 3"), ("letter 0 2 1:10", "letter 0 2 -"), ("thing 0:0", "thing"),
                         ("thing 0:0", "thing -"), ("thing 0:0", "thing 0"), ("thing 0:0", "thing 0:"),
                         ("thing 0:0", "thing :0"), ("thing 0:0", "thing :"), ("thing 0:0", "thing 0:0:0"),
                         ("thing 0:0", "thing 0.0"), ("thing 0:0", "thing +0:0"), ("thing 0:0", "thing -0:0"),
                         ("thing 0:0", "thing 0:\u0660"), ("thing 0:0", "thing 0:\u00b2"), ("1:10 -", "1:1_0 -"),
                         ("1:10 -", "1:10 --"), ("1:10 -", "1:10 None"), ("1:11 -", "1:11 " + "9" * 5000),
                         ("1:11 -", "1:11 1:" + "9" * 5000)):
            self.changed(old, new)

    def test_pictures_that_are_refused(self):
        for old, new in (("house 2 - - - -", "house 2 - - -"), ("house 2 - - - -", "house 2 - - - - -"),
                         ("house 2 - - - -", "house 2 - - - -" + " 0:0" * 7), ("house 2 -", "house 2 0:1"),
                         ("house 2 -", "house 2 3:0"), ("thing 1:11 -", "thing 1:11 - - - - -"),
                         ("mark 0:99 -", "mark 0:99"), ("mark 0:99 -", "mark 0:99 - -"),
                         ("mark 0:99 -", "mark 0:100 -"),
                         ("thing 0:0", "thing 1:0"), ("thing 0:0", "thing 0:4"),
                         ("letter 0 2 1:10", "letter 0 2 1:12")):
            self.changed(old, new)
        rows = [f"thing 0:{number}" for number in range(41)]
        self.refused(text_of(["houses 1", "house 0 - - - -"] + rows))
        self.refused(text_of(["houses 9"] + [f"house {home} - - - -" for home in range(9)]))
        self.assertEqual(len(picture_read(text_of(["houses 1", "house 0 - - - -"] + rows[:40]))[0][0][1]), 40)

    def test_other_texts(self):
        for text in ("", "\n", " ", "houses 0\n", "houses\n", "-\n", "0\n", "tick\n", "house\n", "thing\n", "mark\n",
                     "letter\n", "letter 0\n", "picture", "\u00e9\n", "\x00"):
            self.refused(text)

    def test_each_character_left_out(self):
        text = text_of(FULL_ROWS)
        for place in range(len(text)):
            turned = text[:place] + text[place + 1:]
            try:
                told = picture_read(turned)
            except NoText:
                continue
            self.assertIsNone(look_at_picture(told))
            self.assertEqual(picture_shown(told), turned)
