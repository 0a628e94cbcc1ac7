import copy
import unittest

from heldafar.errors import NoText
from heldafar.texts import run_read, run_shown

STEPS = [
    (("at", 0, ("make", 1, 4)), "at 0 make 1 4"),
    (("at", 1, ("copy", 2, 3)), "at 1 copy 2 3"),
    (("at", 2, ("drop", 3)), "at 2 drop 3"),
    (("at", 3, ("put", 0, 1, 2)), "at 3 put 0 1 2"),
    (("at", 4, ("take", 3, 2, 1)), "at 4 take 3 2 1"),
    (("at", 5, ("send", 0, 7, 1)), "at 5 send 0 7 1"),
    (("at", 6, ("ask", 1, 2, 3)), "at 6 ask 1 2 3"),
    (("at", 7, ("tell", 2, 0, 3)), "at 7 tell 2 0 3"),
    (("at", 0, ("move", 1, 5)), "at 0 move 1 5"),
    (("at", 1, ("sweep",)), "at 1 sweep"),
    (("at", 2, ("picture",)), "at 2 picture"),
    (("at", 3, ("free", 10)), "at 3 free 10"),
    (("save", 4), "save 4"),
    (("fall", 5), "fall 5"),
    (("come", 19999), "come 19999"),
    (("double", 0), "double 0"),
    (("lose", 100), "lose 100"),
    (("tick",), "tick"),
    (("round",), "round"),
]
NINE = 999999999


def with_numbers(step, number):
    """The same step with another number in the place of each."""
    return tuple(with_numbers(one, number) if isinstance(one, tuple) else
                 number if isinstance(one, int) else one for one in step)


class RunTest(unittest.TestCase):
    def refused(self, text):
        with self.subTest(text=text):
            with self.assertRaises(NoText):
                run_read(text)
            with self.assertRaises(NoText):
                run_read("tick\n" + text)

    def test_each_kind_of_step(self):
        for step, row in STEPS:
            self.assertEqual(run_shown([step]), row + "\n")
            self.assertEqual(run_read(row + "\n"), [step])

    def test_all_of_them(self):
        steps = [step for step, row in STEPS] * 2
        text = "".join(row + "\n" for step, row in STEPS) * 2
        self.assertEqual(run_shown(steps), text)
        self.assertEqual(run_read(text), steps)

    def test_no_steps(self):
        self.assertEqual(run_shown([]), "")
        self.assertEqual(run_read(""), [])

    def test_numbers_of_nine_figures(self):
        for step, row in STEPS:
            for number in (0, 9, 10, 100000000, NINE):
                large = with_numbers(step, number)
                self.assertEqual(run_read(run_shown([large])), [large])
        self.assertEqual(run_shown([("come", NINE)]), "come 999999999\n")
        self.assertEqual(run_read("at 999999999 free 999999999\n"), [("at", NINE, ("free", NINE))])

    def test_words_of_other_steps(self):
        for row in ("jump", "jump 1", "at", "at 0", "at 0 jump", "at 0 save 1", "at 0 tick", "at 0 round",
                    "at 0 at 1 sweep", "at sweep", "at sweep 0", "sweep", "make 1 2", "picture", "free 0", "drop 1",
                    "-", "1", "0 tick", "ticks", "tic", "at0 sweep", "at 0sweep", "save4", "at 0 1", "at - sweep"):
            self.refused(row + "\n")

    def test_a_number_too_few_or_too_many(self):
        for step, row in STEPS:
            self.refused(row + " 0\n")
            self.refused(row + " x\n")
            if " " in row:
                self.refused(row.rpartition(" ")[0] + "\n")
                self.refused(row.rpartition(" ")[0] + " \n")

    def test_numbers_that_are_none(self):
        for step, row in STEPS:
            words = row.split(" ")
            for place, word in enumerate(words):
                if word.isdigit():
                    for other in ("1000000000", "1234567890", "-1", "-0", "+1", "00", "01", "0000000001", "1.0", "1_0",
                                  "0x1", "x", "", "None", "True", "\u0661", "\u00b2", "9" * 5000):
                        self.refused(" ".join(words[:place] + [other] + words[place + 1:]) + "\n")

    def test_blanks_and_tabs(self):
        for step, row in STEPS:
            self.refused(" " + row + "\n")
            self.refused(row + " \n")
            self.refused(row + "\t\n")
            self.refused("\t" + row + "\n")
            pieces = row.split(" ")
            for place in range(1, len(pieces)):
                for between in ("  ", "\t", " \t", "", "\u00a0"):
                    self.refused(" ".join(pieces[:place]) + between + " ".join(pieces[place:]) + "\n")

    def test_capital_letters(self):
        for step, row in STEPS:
            self.refused(row.upper() + "\n")
            self.refused(row.title() + "\n")
        self.refused("at 0 Sweep\n")
        self.refused("At 0 sweep\n")

    def test_row_ends(self):
        self.refused("\n")
        for step, row in STEPS:
            self.refused(row)
            self.refused(row + "\n\n")
            self.refused("\n" + row + "\n")
            self.refused(row + "\n" + row)
            self.refused(row + "\n\n" + row + "\n")
            self.refused(row + "\r\n")
            self.refused(row + "\r")
            self.refused(row + "\x0b" + row + "\n")

    def test_what_is_handed_in_stays(self):
        steps = [step for step, row in STEPS]
        before = copy.deepcopy(steps)
        text = run_shown(steps)
        self.assertEqual(steps, before)
        self.assertEqual(run_shown(steps), text)

    def test_a_told_list_is_built_anew(self):
        for text in ("", "tick\nsave 1\n"):
            first = run_read(text)
            kept = list(first)
            first.append(("fall", 1))
            first[0] = ("lose", 0)
            self.assertEqual(run_read(text), kept)

    def test_shown_of_what_is_no_step(self):
        for step in (("jump",), ("jump", 1), (), ("tick", 0), ("save",), ("save", 1, 2), ("at",), ("at", 0), ("sweep",),
                     ("at", 0, ("tick",)), ("at", 0, ("save", 1)), ("at", 0, ()), ("at", 0, ("sweep",), 1),
                     ("at", 0, ("make", 1)), ("at", 0, ("make", 1, 2, 3)), ("at", 0, "sweep"), ("at", 0, ["sweep"]),
                     ("at", -1, ("sweep",)), ("at", NINE + 1, ("sweep",)), ("at", True, ("sweep",)),
                     ("at", 0, ("at", 0, ("sweep",))), ("save", -1), ("come", NINE + 1), ("come", 10 ** 5000),
                     ("lose", False), ("lose", "0"), ("lose", None), ("Tick",), ("tick ",), (0,), ([],), None, "tick",
                     ["tick"], 3):
            with self.assertRaises(NoText):
                run_shown([step])
            with self.assertRaises(NoText):
                run_shown([("tick",), step])
