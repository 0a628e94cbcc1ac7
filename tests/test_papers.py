import copy
import itertools
import unittest

from heldafar.papers import cut_holds, pointed_holds, wanted_holds
from tests.helper import all_names, chain, mark, one_house, part, picture, random_picture, slowly_reached, thing

LARGE = 10 ** 5000
OTHER_NUMBERS = (-1, -2, -4, -100, 100, LARGE, -LARGE)

# House 0 has (0, 0) and (0, 1) in hands, (1, 2) behind them; a letter has (1, 1) and (0, 3).
TOLD = picture(
    part([thing(0, 0, None, (1, 0)), thing(0, 1), thing(0, 3, (0, 3)), thing(0, 4, (0, 5)),
          thing(0, 5, (0, 4), (1, 4))],
         [None, (0, 0), (0, 1)], [(1, 2), (0, 0)]),
    part([thing(1, 0, (0, 1), (1, 1), None, (0, 3)), mark(1, 1, (1, 2)), thing(1, 2, None), mark(1, 3), thing(1, 4)]),
    letters=[(0, 1, ((0, 1),)), (1, 0, ((1, 1), (0, 3)))],
)
LETTERS = (((0, 1),), ((1, 1), (0, 3)))
LONG = (((0, 0), 1), ((1, 0), 1), ((1, 1), 0))


class CheckerTest(unittest.TestCase):
    def answers(self, checker, told, paper, expected):
        before = copy.deepcopy(told)
        self.assertIs(checker(told, paper), expected)
        self.assertIs(checker(told, paper), expected)
        self.assertEqual(told, before)


class WantedTest(CheckerTest):
    def holds(self, name, start, steps=(), word="wanted", told=TOLD):
        self.answers(wanted_holds, told, (word, name, start, steps), True)

    def fails(self, name, start, steps=(), word="wanted", told=TOLD):
        self.answers(wanted_holds, told, (word, name, start, steps), False)

    def test_starts_without_steps(self):
        self.holds((0, 0), ("hand", 0, 1))
        self.holds((0, 1), ("hand", 0, 2))
        self.holds((1, 2), ("hand", 0, 4))
        self.holds((0, 0), ("hand", 0, 5))
        self.holds((0, 1), ("letter", 0, 0))
        self.holds((1, 1), ("letter", 1, 0))
        self.holds((0, 3), ("letter", 1, 1))

    def test_one_step_and_many(self):
        self.holds((1, 0), ("hand", 0, 1), LONG[:1])
        self.holds((1, 1), ("hand", 0, 5), LONG[:2])
        self.holds((1, 2), ("hand", 0, 1), LONG)
        self.holds((1, 2), ("letter", 1, 0), LONG[2:])
        self.holds((0, 3), ("letter", 1, 1), (((0, 3), 0),) * 9)
        told, names = chain()
        steps = tuple((name, 0) for name in names)
        self.holds(names[-1], ("hand", 0, 0), steps[:-1], told=told)
        self.fails(names[-1], ("hand", 0, 0), steps, told=told)
        self.fails(names[-1], ("hand", 0, 0), steps[:-2], told=told)

    def test_a_start_that_is_not_there(self):
        for number in OTHER_NUMBERS + (2, 6, 10):
            for word in ("hand", "letter"):
                for name in all_names(TOLD):
                    self.fails(name, (word, number, 0))
                    self.fails(name, (word, number, 1))
                    self.fails(name, (word, 0, number) if number != 2 else (word, 1, number))
        self.fails((0, 1), ("hand", -2, 2))
        self.fails((0, 0), ("hand", 0, -1))
        self.fails((0, 3), ("letter", -1, 1))
        self.fails((0, 3), ("letter", 1, -1))

    def test_an_empty_hand(self):
        for house, place in ((0, 0), (0, 3), (1, 0), (1, 3)):
            for name in all_names(TOLD):
                self.fails(name, ("hand", house, place))
                self.fails(name, ("hand", house, place), ((name, 0),))

    def test_other_words(self):
        for word in ("cut", "pointed", "", "Wanted", "want", "wanted "):
            self.fails((0, 0), ("hand", 0, 1), word=word)
        for word in ("field", "", "Hand", "hands", "wanted"):
            self.fails((0, 0), (word, 0, 1))
            self.fails((0, 1), (word, 0, 0))
        self.fails((1, 0), ("field", (0, 0), 1))
        self.answers(wanted_holds, TOLD, ("cut", ((1, 3),), LETTERS), False)
        self.answers(wanted_holds, TOLD, ("pointed", (1, 2), ((1, 2),), ("hand", 0, 4), ()), False)

    def test_another_name(self):
        for name in all_names(TOLD) + [(5, 0), (0, 2), (-1, 0), (0, -1), (LARGE, LARGE)]:
            if name != (0, 0):
                self.fails(name, ("hand", 0, 1))
            if name != (1, 2):
                self.fails(name, ("hand", 0, 1), LONG)

    def test_steps_too_few_or_too_many(self):
        for place in range(3):
            self.fails((1, 2), ("hand", 0, 1), LONG[:place] + LONG[place + 1:])
            self.fails((1, 2), ("hand", 0, 1), LONG[:place] + LONG[place:place + 1] + LONG[place:])
        self.fails((1, 2), ("hand", 0, 1), LONG + (((1, 2), 0),))
        self.fails((1, 2), ("hand", 0, 1), ())

    def test_steps_turned_about(self):
        for steps in itertools.permutations(LONG):
            if steps != LONG:
                self.fails((1, 2), ("hand", 0, 1), steps)

    def test_fields_that_are_not_there_or_empty(self):
        for field in OTHER_NUMBERS + (0, 2, 4):
            self.fails((1, 0), ("hand", 0, 1), (((0, 0), field),))
            self.fails((1, 2), ("hand", 0, 1), (((0, 0), field),) + LONG[1:])
        self.fails((0, 3), ("hand", 0, 1), (((0, 0), 1), ((1, 0), -1)))
        self.holds((0, 3), ("hand", 0, 1), (((0, 0), 1), ((1, 0), 3)))
        self.fails((0, 1), ("hand", 0, 2), (((0, 1), 0),))

    def test_a_name_of_no_thing_in_a_step(self):
        for name in ((0, 2), (2, 0), (-1, 0), (0, 100), (0, -1), (LARGE, 0), (0, -LARGE)):
            for place in range(3):
                self.fails((1, 2), ("hand", 0, 1), LONG[:place] + ((name, LONG[place][1]),) + LONG[place + 1:])
            self.fails(name, ("hand", 0, 1), LONG + ((name, 0),))

    def test_true_and_false_are_no_numbers(self):
        self.fails((False, 0), ("hand", 0, 1))
        self.fails((0, False), ("hand", 0, 1))
        self.fails((0, 0), ("hand", False, 1))
        self.fails((0, 0), ("hand", 0, True))
        self.fails((0, 1), ("letter", False, 0))
        self.fails((1, 0), ("hand", 0, 1), (((False, 0), 1),))
        self.fails((1, 0), ("hand", 0, 1), (((0, 0), True),))

    def test_papers_let_by_are_true(self):
        for seed in range(150):
            told = random_picture(seed)
            found = slowly_reached(told)
            for name in all_names(told):
                for start in random_starts(told):
                    self.assertFalse(wanted_holds(told, ("wanted", name, start, ())) and name not in found)
                    for steps in short_ways(told):
                        paper = ("wanted", name, start, steps)
                        self.assertFalse(wanted_holds(told, paper) and name not in found)


def random_starts(told):
    places = range(-1, 3)
    return [(word, row, place) for word in ("hand", "letter") for row in places for place in places]


def short_ways(told):
    """Steps of which each leads to the next, whatever they begin with."""
    fields = {name: row for hands, things in told[0] for name, sort, row in things}
    steps = [(name, field) for name in fields for field in range(len(fields[name]))]
    return [(step,) for step in steps] + [(step, other) for step in steps for other in steps
                                          if fields[step[0]][step[1]] == other[0]][:40]


class CutTest(CheckerTest):
    def holds(self, names, letters=LETTERS, word="cut", told=TOLD):
        self.answers(cut_holds, told, (word, names, letters), True)

    def fails(self, names, letters=LETTERS, word="cut", told=TOLD):
        self.answers(cut_holds, told, (word, names, letters), False)

    def test_all_that_cannot_be_come_to(self):
        self.holds(((0, 4), (0, 5), (1, 3), (1, 4)))
        self.holds(((0, 0),), (), told=one_house(thing(0, 0)))

    def test_smaller_ones(self):
        self.holds(((1, 3),))
        self.holds(((0, 4), (0, 5)))
        self.holds(((0, 4), (0, 5), (1, 3)))
        self.holds(((0, 4), (0, 5), (1, 4)))

    def test_no_names(self):
        self.fails(())
        self.fails((), (), told=one_house())

    def test_names_that_do_not_rise_or_stand_twice(self):
        self.fails(((0, 5), (0, 4)))
        self.fails(((0, 4), (0, 5), (1, 4), (1, 3)))
        self.fails(((1, 3), (0, 4), (0, 5)))
        self.fails(((1, 3), (1, 3)))
        self.fails(((0, 4), (0, 4), (0, 5)))
        self.fails(((0, 4), (0, 5), (0, 5)))

    def test_names_of_no_thing(self):
        for name in ((0, 2), (0, 100), (0, -1), (2, 0), (-1, 3), (LARGE, 0), (-LARGE, LARGE)):
            self.fails((name,))
            self.fails(tuple(sorted([name, (1, 3)])))

    def test_a_hand_or_a_letter_points_to_it(self):
        told = one_house(thing(0, 0), thing(0, 1))
        self.holds(((0, 0), (0, 1)), (), told=told)
        for place in range(4):
            self.fails(((0, 0), (0, 1)), (), told=one_house(*told[0][0][1], hands=[None] * place + [(0, 1)]))
        for place in range(6):
            self.fails(((0, 1),), (), told=picture(part(told[0][0][1], still=[(0, 0)] * place + [(0, 1)])))
        parts = [part([thing(0, 0), thing(0, 1)]), part()]
        self.holds(((0, 0), (0, 1)), (), told=picture(*parts))
        for names in (((0, 1),), ((0, 0), (0, 1)), ((0, 1), (0, 1))):
            self.fails(((0, 1),), (names,), told=picture(*parts, letters=[(0, 1, names)]))
            self.fails(((0, 0), (0, 1)), (names,), told=picture(*parts, letters=[(0, 1, names)]))
        self.holds(((0, 1),), (((0, 0),),), told=picture(*parts, letters=[(0, 1, ((0, 0),))]))

    def test_a_field_of_another_thing_points_to_it(self):
        self.fails(((0, 4),))
        self.fails(((0, 5),))
        self.fails(((1, 4),))
        self.fails(((1, 3), (1, 4)))
        for place in range(4):
            told = one_house(thing(0, 0, *[None] * place, (0, 1)), thing(0, 1, (0, 1)))
            self.fails(((0, 1),), (), told=told)
            self.holds(((0, 0),), (), told=told)
            self.holds(((0, 0), (0, 1)), (), told=told)
        self.fails(((0, 1),), (), told=one_house(mark(0, 0, (0, 1)), thing(0, 1)))
        self.fails(((0, 0),), (), told=picture(part([thing(0, 0)]), part([mark(1, 0, (0, 0))])))

    def test_letters_told_wrongly(self):
        for letters in ((), LETTERS[:1], LETTERS[1:], LETTERS + LETTERS[:1], LETTERS[::-1], LETTERS + ((),),
                        (((0, 1),), ((0, 3), (1, 1))), (((0, 1),), ((1, 1),)), (((0, 0),), ((1, 1), (0, 3))),
                        ((), ()), (((0, 1),), ((1, 1), (0, 3), (0, 3))), (((0, 1), (1, 1)), ((0, 3),)),
                        (((0, 1),), ((1, 1), (0, LARGE))), (((0, 1),), ((-1, 1), (0, 3)))):
            self.fails(((1, 3),), letters)
        self.fails(((0, 0),), (((0, 0),),), told=one_house(thing(0, 0)))

    def test_other_words(self):
        for word in ("wanted", "pointed", "", "Cut", "cuts"):
            self.fails(((1, 3),), word=word)
        self.answers(cut_holds, TOLD, ("wanted", (0, 0), ("hand", 0, 1), ()), False)
        self.answers(cut_holds, TOLD, ("pointed", (1, 2), ((1, 2),), ("hand", 0, 4), ()), False)

    def test_true_and_false_are_no_numbers(self):
        self.fails(((True, 3),))
        self.fails(((1, 3),), (((0, True),), ((1, 1), (0, 3))))
        self.fails(((1, 3),), (((0, 1),), ((1, 1), (False, 3))))

    def test_just_the_cuts_that_are_true(self):
        for seed in range(120):
            told = random_picture(seed)
            letters = tuple(names for sender, to, names in told[1])
            names = all_names(told)
            for size in range(4):
                for chosen in itertools.combinations(names, size):
                    self.assertIs(cut_holds(told, ("cut", chosen, letters)), cut_is_true(told, chosen))


def cut_is_true(told, chosen):
    pointed = [name for hands, things in told[0] for name in hands]
    pointed += [name for sender, to, names in told[1] for name in names]
    pointed += [field for hands, things in told[0] for name, sort, fields in things
                if name not in chosen for field in fields]
    return bool(chosen) and not set(pointed) & set(chosen)


# (0, 3), (0, 4) and (0, 5) are closed; (0, 2) points to (0, 3) from outside.
RING = picture(
    part([thing(0, 1), thing(0, 2, None, (0, 3), (0, 1)), thing(0, 3, (0, 4)), mark(0, 4, (0, 5)),
          thing(0, 5, None, (0, 3), (0, 5))], [(0, 2), (0, 5), None, (0, 1)], [(0, 4)]),
    part(),
    letters=[(0, 1, ((0, 2),)), (1, 0, ((0, 1), (0, 4)))],
)
NAMES = ((0, 3), (0, 4), (0, 5))


class PointedTest(CheckerTest):
    def holds(self, name, start, steps=(), names=NAMES, word="pointed", told=RING):
        self.answers(pointed_holds, told, (word, name, names, start, steps), True)

    def fails(self, name, start, steps=(), names=NAMES, word="pointed", told=RING):
        self.answers(pointed_holds, told, (word, name, names, start, steps), False)

    def test_starts(self):
        self.holds((0, 5), ("hand", 0, 1))
        self.holds((0, 4), ("hand", 0, 4))
        self.holds((0, 4), ("letter", 1, 1))
        self.holds((0, 3), ("field", (0, 2), 1))

    def test_steps(self):
        self.holds((0, 3), ("hand", 0, 1), (((0, 5), 1),))
        self.holds((0, 4), ("hand", 0, 1), (((0, 5), 2), ((0, 5), 1), ((0, 3), 0)))
        self.holds((0, 5), ("letter", 1, 1), (((0, 4), 0),))
        self.holds((0, 5), ("field", (0, 2), 1), (((0, 3), 0), ((0, 4), 0)))
        self.holds((0, 3), ("field", (0, 2), 1), (((0, 3), 0), ((0, 4), 0), ((0, 5), 1)))

    def test_other_closed_names(self):
        self.holds((0, 1), ("hand", 0, 3), names=((0, 1),))
        self.holds((0, 1), ("field", (0, 2), 2), names=((0, 1),))
        self.holds((0, 5), ("hand", 0, 1), names=((0, 1),) + NAMES)
        self.holds((0, 5), ("hand", 0, 1), names=((0, 1), (0, 2)) + NAMES)
        self.holds((0, 3), ("hand", 0, 0), (((0, 2), 1),), names=((0, 1), (0, 2)) + NAMES)
        other = picture(part([thing(0, 0, (1, 0))]), part([thing(1, 0)]))
        self.holds((1, 0), ("field", (0, 0), 0), names=((1, 0),), told=other)

    def test_names_that_are_not_closed(self):
        self.fails((0, 3), ("field", (0, 2), 1), names=((0, 3),))
        self.fails((0, 5), ("hand", 0, 1), names=((0, 3), (0, 5)))
        self.fails((0, 4), ("hand", 0, 4), names=((0, 4), (0, 5)))
        self.fails((0, 2), ("hand", 0, 0), names=((0, 2),) + NAMES)

    def test_names_that_do_not_rise_or_stand_twice(self):
        for names in itertools.permutations(NAMES):
            if names != NAMES:
                self.fails((0, 5), ("hand", 0, 1), names=names)
        for name in NAMES:
            self.fails((0, 5), ("hand", 0, 1), names=tuple(sorted(NAMES + (name,))))

    def test_names_of_no_thing(self):
        for name in ((0, 0), (0, 100), (0, -1), (1, 0), (2, 0), (-1, 0), (LARGE, LARGE)):
            self.fails((0, 5), ("hand", 0, 1), names=tuple(sorted(NAMES + (name,))))
            self.fails(name, ("hand", 0, 1), names=(name,))
            self.fails(name, ("hand", 0, 1))

    def test_names_that_lack_the_name(self):
        self.fails((0, 1), ("hand", 0, 3))
        self.fails((0, 2), ("hand", 0, 0))
        self.fails((0, 5), ("hand", 0, 1), names=())
        self.fails((0, 5), ("hand", 0, 1), names=((0, 1),))

    def test_a_start_that_is_not_there_or_empty(self):
        for number in OTHER_NUMBERS + (2, 3):
            for name in NAMES:
                for word in ("hand", "letter"):
                    self.fails(name, (word, number, 1))
                    self.fails(name, (word, 0, number))
                    self.fails(name, (word, 1, number))
                self.fails(name, ("field", (0, 2), number))
        self.fails((0, 4), ("hand", 0, -1))
        self.fails((0, 4), ("letter", 1, -1))
        self.fails((0, 3), ("field", (0, 2), -2))
        for start in (("hand", 0, 2), ("hand", 1, 0), ("field", (0, 2), 0)):
            for name in NAMES:
                self.fails(name, start)
        for thing_name in ((0, 0), (1, 0), (2, 2), (-1, 2), (0, LARGE), (LARGE, 2)):
            self.fails((0, 3), ("field", thing_name, 1))

    def test_a_field_of_one_of_the_names(self):
        self.fails((0, 3), ("field", (0, 5), 1))
        self.fails((0, 5), ("field", (0, 5), 2))
        self.fails((0, 5), ("field", (0, 4), 0))
        self.fails((0, 3), ("field", (0, 2), 1), names=((0, 1), (0, 2)) + NAMES)

    def test_a_start_with_a_name_outside(self):
        self.fails((0, 3), ("hand", 0, 0))
        self.fails((0, 3), ("hand", 0, 0), (((0, 2), 1),))
        self.fails((0, 3), ("letter", 0, 0), (((0, 2), 1),))
        self.fails((0, 3), ("field", (0, 2), 2))
        self.fails((0, 3), ("field", (0, 2), 2), (((0, 3), 0), ((0, 4), 0), ((0, 5), 1)))

    def test_steps_that_go_wrong(self):
        steps = (((0, 3), 0), ((0, 4), 0))
        self.fails((0, 5), ("field", (0, 2), 1), steps[:1])
        self.fails((0, 5), ("field", (0, 2), 1), steps[1:])
        self.fails((0, 5), ("field", (0, 2), 1), steps[::-1])
        self.fails((0, 5), ("field", (0, 2), 1), steps + steps[1:])
        self.fails((0, 5), ("field", (0, 2), 1), ())
        self.fails((0, 3), ("field", (0, 2), 1), steps)
        for field in OTHER_NUMBERS + (1,):
            self.fails((0, 5), ("field", (0, 2), 1), (((0, 3), 0), ((0, 4), field)))
        for field in (0, 3, -1, -2):
            self.fails((0, 3), ("hand", 0, 1), (((0, 5), field),))
        for name in ((0, 0), (0, 1), (0, 2), (1, 0), (-1, 3), (LARGE, LARGE)):
            self.fails((0, 5), ("field", (0, 2), 1), ((name, 0), ((0, 4), 0)))
            self.fails((0, 5), ("field", (0, 2), 1), (((0, 3), 0), (name, 0)))

    def test_other_words(self):
        for word in ("wanted", "cut", "", "Pointed"):
            self.fails((0, 5), ("hand", 0, 1), word=word)
        for word in ("", "Hand", "fields", "pointed"):
            self.fails((0, 5), (word, 0, 1))
            self.fails((0, 4), (word, 1, 1))
            self.fails((0, 3), (word, (0, 2), 1))
        self.fails((0, 3), ("field", 0, 1))
        self.answers(pointed_holds, TOLD, ("wanted", (0, 0), ("hand", 0, 1), ()), False)
        self.answers(pointed_holds, TOLD, ("cut", ((1, 3),), LETTERS), False)

    def test_true_and_false_are_no_numbers(self):
        self.fails((False, 5), ("hand", 0, 1))
        self.fails((0, 5), ("hand", 0, True))
        self.fails((0, 5), ("hand", False, 1))
        self.fails((0, 3), ("field", (False, 2), 1))
        self.fails((0, 3), ("field", (0, 2), True))
        self.fails((0, 5), ("hand", 0, 1), names=((False, 3), (0, 4), (0, 5)))
        self.fails((0, 3), ("hand", 0, 1), (((False, 5), 1),))
        self.fails((0, 3), ("hand", 0, 1), (((0, 5), True),))


class FormTest(unittest.TestCase):
    def test_other_forms_are_let_by_by_none(self):
        for paper in ((), ("wanted",), ("cut", ()), ("pointed",), None, "cut", ("cut", None, ()),
                      ("cut", ((1, 3),), None),
                      ("cut", (None,), LETTERS), ("wanted", None, ("hand", 0, 0), ()), ("wanted", (0, 0), None, ()),
                      ("wanted", (0, 0), ("hand", 0, 1), None), ("wanted", (0, 0), ("hand", 0, 1), (None,)),
                      ("pointed", (0, 0), None, None, None), ("pointed", (1, 2), ((1, 2),), None, ()),
                      ("pointed", None, ((1, 2),), ("hand", 0, 4), ()), ("cut", ([],), LETTERS),
                      ("cut", ((1, 3),), list(LETTERS)), ("cut", [(1, 3)], LETTERS)):
            for checker in (wanted_holds, cut_holds, pointed_holds):
                self.assertIs(checker(TOLD, paper), False)
