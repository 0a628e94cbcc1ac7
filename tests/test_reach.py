import copy
import unittest

from heldafar.reach import reached
from tests.helper import all_names, chain, ladder, mark, one_house, part, picture, random_picture, slowly_reached, thing


class ReachTest(unittest.TestCase):
    def tells(self, told, *names):
        before = copy.deepcopy(told)
        self.assertEqual(reached(told), names)
        self.assertEqual(reached(told), names)
        self.assertEqual(told, before)

    def test_no_things(self):
        self.tells(one_house())
        self.tells(picture(*[part() for home in range(8)]))

    def test_nothing_leads_to_it(self):
        self.tells(one_house(thing(0, 0), thing(0, 1, (0, 0))))

    def test_hands_and_what_is_behind(self):
        for place in range(4):
            self.tells(picture(part([thing(0, 0), thing(0, 1)], [None] * place + [(0, 1)])), (0, 1))
        for place in range(6):
            self.tells(picture(part([thing(0, 0), thing(0, 1)], still=[(0, 0)] * place + [(0, 1)])),
                       *([(0, 0)] if place else []), (0, 1))

    def test_each_house(self):
        for home in range(8):
            parts = [part([thing(number, 0)], [(home, 0)] if number == home else []) for number in range(8)]
            self.tells(picture(*parts), (home, 0))

    def test_letters(self):
        parts = [part([thing(0, 0), thing(0, 1)]), part([thing(1, 0), thing(1, 1)])]
        self.tells(picture(*parts, letters=[(0, 1, ((1, 1),))]), (1, 1))
        self.tells(picture(*parts, letters=[(0, 1, ((1, 1), (0, 1))), (1, 0, ((1, 0),))]), (0, 1), (1, 0), (1, 1))

    def test_fields_and_marks(self):
        for place in range(4):
            self.tells(one_house(thing(0, 0, *[None] * place, (0, 1)), thing(0, 1), thing(0, 2), hands=[(0, 0)]),
                       (0, 0), (0, 1))
        self.tells(one_house(mark(0, 0, (0, 1)), thing(0, 1), hands=[(0, 0)]), (0, 0), (0, 1))
        self.tells(one_house(thing(0, 0, (0, 1)), mark(0, 1, (0, 2)), thing(0, 2), hands=[(0, 0)]),
                   (0, 0), (0, 1), (0, 2))
        self.tells(one_house(mark(0, 0), thing(0, 1), hands=[(0, 0)]), (0, 0))

    def test_rings(self):
        ring = [part([thing(0, 0, (1, 0)), thing(0, 1, (1, 1))]), part([thing(1, 0, (0, 0)), mark(1, 1, (0, 1))])]
        self.tells(picture(*ring))
        self.tells(picture(*ring, letters=[(1, 0, ((1, 1),))]), (0, 1), (1, 1))
        self.tells(one_house(thing(0, 0, (0, 0)), thing(0, 1, (0, 1)), hands=[(0, 1)]), (0, 1))

    def test_a_chain_of_320(self):
        told, names = chain()
        self.tells(told, *sorted(names))
        broken = picture(part(told[0][0][1]), *told[0][1:], letters=[(0, 1, (names[160],))])
        self.tells(broken, *sorted(names[160:]))

    def test_very_many_ways(self):
        told = ladder(160)[0]
        self.tells(told, *all_names(told))

    def test_random_ones(self):
        for seed in range(400):
            told = random_picture(seed)
            self.tells(told, *slowly_reached(told))
