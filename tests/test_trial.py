import unittest

from heldafar.papers import cut_holds, pointed_holds
from heldafar.trial import Trial
from tests.helper import (
    all_names, held, mark, one_house, part, picture, random_picture, slowly_come_to, slowly_reached, thing,
)


def slowly_stay(told, name):
    """The names that stay on trial of name, and those that can be come to from it."""
    near = slowly_come_to(told, [name])
    pointed = held(told) & near
    for hands, things in told[0]:
        for other, sort, fields in things:
            if other not in near:
                pointed |= set(fields) & near
    return near - slowly_come_to(told, pointed), near


class TrialTest(unittest.TestCase):
    def test_a_thing_alone(self):
        self.assertEqual(Trial(one_house(thing(0, 3))).seek((0, 3)), ("cut", ((0, 3),), ()))
        told = one_house(thing(0, 3, (0, 3)), hands=[None, (0, 3)])
        self.assertEqual(Trial(told).seek((0, 3)), ("pointed", (0, 3), ((0, 3),), ("hand", 0, 1), ()))

    def test_the_cut_has_all_that_stay_and_the_letters(self):
        # From (0, 0) three more can be come to: a hand holds (1, 0), which holds (1, 1); (0, 1) stays.
        told = picture(
            part([thing(0, 0, (0, 1), (1, 0)), thing(0, 1, (0, 0)), thing(0, 2)]),
            part([mark(1, 0, (1, 1)), thing(1, 1)], [(1, 0)]),
            letters=[(1, 0, ((0, 2), (1, 0))), (0, 1, ((1, 1),))],
        )
        letters = (((0, 2), (1, 0)), ((1, 1),))
        for name in ((0, 0), (0, 1)):
            self.assertEqual(Trial(told).seek(name), ("cut", ((0, 0), (0, 1)), letters))

    def test_what_a_letter_holds_is_taken_away(self):
        told = picture(part([thing(0, 0, (1, 0)), thing(0, 1)]), part([thing(1, 0, (0, 1))]),
                       letters=[(1, 0, ((0, 1), (1, 0)))])
        self.assertEqual(Trial(told).seek((0, 0)), ("cut", ((0, 0),), (((0, 1), (1, 0)),)))
        paper = Trial(told).seek((1, 0))
        self.assertEqual(paper, ("pointed", (1, 0), ((0, 1), (1, 0)), ("letter", 0, 1), ()))

    def test_what_is_still_to_be_told_holds_too(self):
        told = picture(part([thing(0, 0)], still=[(0, 0)]))
        self.assertEqual(Trial(told).seek((0, 0)), ("pointed", (0, 0), ((0, 0),), ("hand", 0, 4), ()))

    def test_what_an_outer_field_holds_is_taken_away(self):
        # (0, 5) can't be come to either, but it isn't come to from (0, 0).
        told = one_house(thing(0, 0, (0, 1)), thing(0, 1, (0, 2)), thing(0, 2), thing(0, 5, None, (0, 1)))
        self.assertEqual(Trial(told).seek((0, 0)), ("cut", ((0, 0),), ()))
        paper = Trial(told).seek((0, 2))
        self.assertEqual(paper, ("pointed", (0, 2), ((0, 2),), ("field", (0, 1), 0), ()))
        paper = Trial(told).seek((0, 1))
        self.assertEqual(paper[:3], ("pointed", (0, 1), ((0, 1), (0, 2))))
        self.assertIn(paper[3:], ((("field", (0, 0), 0), ()), (("field", (0, 5), 1), ())))

    def test_a_mark_outside_points_to_it(self):
        told = picture(part([mark(0, 0, (1, 0))]), part([thing(1, 0)]))
        self.assertEqual(Trial(told).seek((1, 0)), ("pointed", (1, 0), ((1, 0),), ("field", (0, 0), 0), ()))
        self.assertEqual(Trial(told).seek((0, 0)), ("cut", ((0, 0), (1, 0)), ()))

    def test_steps_lead_from_the_start_to_name(self):
        # The hand has (1, 0), from which two steps lead to (0, 0); all three stand in a ring.
        told = picture(part([thing(0, 0, None, (1, 0))]), part([thing(1, 0, (1, 1)), thing(1, 1, None, None, (0, 0))]),
                       part(hands=[None, None, (1, 0)]))
        names = ((0, 0), (1, 0), (1, 1))
        steps = (((1, 0), 0), ((1, 1), 2))
        self.assertEqual(Trial(told).seek((0, 0)), ("pointed", (0, 0), names, ("hand", 2, 2), steps))

    def test_a_hand_further_back_is_not_looked_at(self):
        told = one_house(thing(0, 0, (0, 1)), thing(0, 1), hands=[(0, 0)])
        self.assertEqual(Trial(told).seek((0, 1)), ("pointed", (0, 1), ((0, 1),), ("field", (0, 0), 0), ()))

    def test_all_that_stay_on_many_pictures(self):
        cuts, pointed = 0, 0
        for seed in range(400):
            told = random_picture(seed)
            found = slowly_reached(told)
            for name in all_names(told):
                stay, near = slowly_stay(told, name)
                paper = Trial(told).seek(name)
                if name in stay:
                    letters = tuple(names for sender, to, names in told[1])
                    self.assertEqual(paper, ("cut", tuple(sorted(stay)), letters))
                    self.assertTrue(cut_holds(told, paper))
                    self.assertNotIn(name, found)
                    cuts += 1
                else:
                    self.assertEqual(paper[:3], ("pointed", name, tuple(sorted(near))))
                    self.assertEqual(len(paper), 5)
                    self.assertTrue(pointed_holds(told, paper))
                    pointed += name not in found
        self.assertGreater(cuts, 100)
        self.assertGreater(pointed, 100)
