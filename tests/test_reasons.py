import copy
import unittest

from heldafar.errors import NoThing
from heldafar.papers import cut_holds, wanted_holds
from heldafar.reasons import cut_for, wanted_for, why
from tests.helper import (
    NO_THINGS, all_names, chain, ladder, mark, one_house, part, picture, random_picture, slowly_reached, thing,
)


def slowly_wanted(told, name):
    """All ways from all starts, step by step, till one comes to name: the first of the shortest."""
    houses, letters = told
    fields = {thing_name: row for hands, things in houses for thing_name, sort, row in things}
    ways = [(("hand", house, place), (), first) for house, (hands, things) in enumerate(houses)
            for place, first in enumerate(hands) if first is not None]
    ways += [(("letter", letter, place), (), first) for letter, (sender, to, names) in enumerate(letters)
             for place, first in enumerate(names)]
    for many in range(len(fields) + 1):
        done = [(start, steps) for start, steps, at in ways if at == name]
        if done:
            # "hand" stands ahead of "letter" in the alphabet too.
            return ("wanted", name) + min(done)
        seen = set()
        following = []
        for start, steps, at in ways:
            for field, other in enumerate(fields[at]):
                if other is not None and (start, other) not in seen:
                    seen.add((start, other))
                    following.append((start, steps + ((at, field),), other))
        ways = following
    return None


class WantedForTest(unittest.TestCase):
    def tells(self, told, name, start, *steps):
        before = copy.deepcopy(told)
        paper = ("wanted", name, start, steps)
        for asked in (wanted_for, why, wanted_for):
            self.assertEqual(asked(told, name), paper)
        self.assertTrue(wanted_holds(told, paper))
        self.assertEqual(told, before)

    def test_starts(self):
        self.tells(one_house(thing(0, 0), hands=[None, (0, 0)]), (0, 0), ("hand", 0, 1))
        self.tells(picture(part([thing(0, 0)], still=[(0, 0)])), (0, 0), ("hand", 0, 4))
        parts = [part([thing(0, 0), thing(0, 1)]), part()]
        self.tells(picture(*parts, letters=[(1, 0, ((0, 1), (0, 0)))]), (0, 0), ("letter", 0, 1))

    def test_the_fewest_steps(self):
        things = [thing(0, 0, (0, 1), (0, 3)), thing(0, 1, (0, 2)), thing(0, 2, (0, 3)), mark(0, 3, (0, 4)),
                  thing(0, 4)]
        self.tells(one_house(*things, hands=[(0, 0)]), (0, 4), ("hand", 0, 0), ((0, 0), 1), ((0, 3), 0))
        self.tells(one_house(*things, hands=[(0, 0), (0, 2)]), (0, 3), ("hand", 0, 0), ((0, 0), 1))
        self.tells(one_house(*things, hands=[(0, 1), (0, 2)]), (0, 3), ("hand", 0, 1), ((0, 2), 0))
        self.tells(one_house(*things, hands=[(0, 0), None, (0, 4)]), (0, 4), ("hand", 0, 2))
        letters = [(1, 0, ((0, 0), (0, 4)))]
        self.tells(picture(part(things, [(0, 0)]), part(), letters=letters), (0, 4), ("letter", 0, 1))

    def test_the_first_start_of_several(self):
        parts = [part([thing(0, 0), thing(0, 1, (0, 0))], [None, None, (0, 1)], [(0, 1)]),
                 part([], [(0, 0)]), part([], [(0, 0), (0, 0)])]
        letters = [(0, 1, ((0, 1),)), (1, 0, ((0, 1), (0, 0))), (0, 2, ((0, 0),))]
        self.tells(picture(*parts, letters=letters), (0, 0), ("hand", 1, 0))
        self.tells(picture(*parts, letters=letters), (0, 1), ("hand", 0, 2))
        self.tells(picture(parts[0], part(), parts[2], letters=letters), (0, 0), ("hand", 2, 0))
        self.tells(picture(parts[0], part(), part(), letters=letters), (0, 0), ("letter", 1, 1))
        self.tells(picture(part(parts[0][1]), part(), part(), letters=letters), (0, 1), ("letter", 0, 0))
        self.tells(picture(parts[0], part()), (0, 0), ("hand", 0, 2), ((0, 1), 0))

    def test_the_first_steps_of_several(self):
        told = one_house(thing(0, 0, None, (0, 2), (0, 1), (0, 1)), thing(0, 1, (0, 3)),
                         thing(0, 2, None, (0, 3), (0, 3)), thing(0, 3), hands=[(0, 0)])
        self.tells(told, (0, 3), ("hand", 0, 0), ((0, 0), 1), ((0, 2), 1))
        told = one_house(thing(0, 0, (0, 0), (0, 1), (0, 2)), thing(0, 1), thing(0, 2, (0, 3)), thing(0, 3),
                         hands=[(0, 0)])
        self.tells(told, (0, 3), ("hand", 0, 0), ((0, 0), 2), ((0, 2), 0))

    def test_rings_through_houses(self):
        told = picture(part([thing(0, 0, (1, 0))], [(0, 0)]), part([thing(1, 0, (0, 0), (1, 1)), thing(1, 1)]))
        self.tells(told, (0, 0), ("hand", 0, 0))
        self.tells(told, (1, 1), ("hand", 0, 0), ((0, 0), 0), ((1, 0), 1))

    def test_a_chain_of_320(self):
        told, names = chain()
        self.tells(told, names[-1], ("hand", 0, 0), *[(name, 0) for name in names[:-1]])

    def test_very_many_ways(self):
        told, (low, high) = ladder(160)
        rungs = [(rung // 20, 2 * (rung % 20) + 1) for rung in range(159)]
        # The way goes by the first field, that of the higher one, and from the last rung on to the one asked for.
        steps = [((0, 0), 0)] + [(name, 0) for name in rungs[1:]]
        self.tells(told, high, ("hand", 0, 0), *steps)
        self.tells(told, low, ("hand", 0, 0), *steps[:-1], (rungs[-1], 1))

    def test_none(self):
        told = one_house(thing(0, 0, (0, 1)), thing(0, 1, (0, 0)), thing(0, 2, (0, 1)), thing(0, 3), hands=[(0, 3)])
        for number in range(3):
            self.assertIsNone(wanted_for(told, (0, number)))
        self.assertEqual(wanted_for(told, (0, 3)), ("wanted", (0, 3), ("hand", 0, 0), ()))

    def test_no_thing(self):
        told = one_house(thing(0, 0), hands=[(0, 0)])
        for asked in (wanted_for, why):
            for name in NO_THINGS:
                for one in (told, one_house(), one_house(thing(0, 0))):
                    with self.assertRaises(NoThing):
                        asked(one, name)

    def test_random_ones(self):
        for seed in range(400):
            told = random_picture(seed)
            for name in all_names(told):
                paper = slowly_wanted(told, name)
                self.assertEqual(wanted_for(told, name), paper)
                if paper is not None:
                    self.assertTrue(wanted_holds(told, paper))


class CutForTest(unittest.TestCase):
    def tells(self, told, *names):
        before = copy.deepcopy(told)
        paper = ("cut", names, tuple(letter[2] for letter in told[1]))
        self.assertEqual(cut_for(told), paper)
        self.assertEqual(cut_for(told), paper)
        self.assertTrue(cut_holds(told, paper))
        self.assertEqual(told, before)

    def test_all_that_cannot_be_come_to(self):
        self.tells(one_house(thing(0, 0)), (0, 0))
        self.tells(one_house(thing(0, 0, (0, 1)), mark(0, 1, (0, 0)), thing(0, 2), hands=[(0, 2)]), (0, 0), (0, 1))
        parts = [part([thing(0, 0), thing(0, 5, (1, 5))]), part([thing(1, 0), thing(1, 5, (0, 5))])]
        letters = [(1, 0, ((0, 0), (1, 0))), (0, 1, ((0, 0),))]
        self.tells(picture(*parts, letters=letters), (0, 5), (1, 5))
        self.tells(picture(*parts), (0, 0), (0, 5), (1, 0), (1, 5))

    def test_nothing(self):
        self.assertIsNone(cut_for(one_house()))
        self.assertIsNone(cut_for(picture(*[part() for home in range(8)])))
        self.assertIsNone(cut_for(one_house(thing(0, 0, (0, 1)), thing(0, 1), hands=[(0, 0)])))
        self.assertIsNone(cut_for(chain()[0]))
        self.assertIsNone(cut_for(ladder(160)[0]))

    def test_random_ones(self):
        for seed in range(400):
            told = random_picture(seed)
            found = slowly_reached(told)
            names = [name for name in all_names(told) if name not in found]
            if names:
                self.tells(told, *names)
            else:
                self.assertIsNone(cut_for(told))


class WhyTest(unittest.TestCase):
    def test_wanted_or_else_the_cut(self):
        told = one_house(thing(0, 0), thing(0, 1, (0, 0), (0, 2)), thing(0, 2), hands=[(0, 0)])
        self.assertEqual(why(told, (0, 0)), ("wanted", (0, 0), ("hand", 0, 0), ()))
        self.assertEqual(why(told, (0, 1)), ("cut", ((0, 1), (0, 2)), ()))
        self.assertEqual(why(told, (0, 2)), ("cut", ((0, 1), (0, 2)), ()))

    def test_random_ones(self):
        for seed in range(400):
            told = random_picture(seed)
            before = copy.deepcopy(told)
            found = slowly_reached(told)
            for name in all_names(told):
                paper = why(told, name)
                self.assertEqual(paper, why(told, name))
                if name in found:
                    self.assertEqual(paper, wanted_for(told, name))
                    self.assertTrue(wanted_holds(told, paper))
                else:
                    self.assertEqual(paper, cut_for(told))
                    self.assertIn(name, paper[1])
                    self.assertTrue(cut_holds(told, paper))
            self.assertEqual(told, before)
