import copy
import unittest

from heldafar.errors import NoThing
from heldafar.papers import cut_holds, wanted_holds
from heldafar.ringways import RingWay
from tests.helper import (
    NO_THINGS, all_names, chain, mark, one_house, part, picture, random_picture, slowly_reached, thing,
)

TOLD = picture(part([thing(0, 0, (1, 0)), thing(0, 7)], [(0, 7)]), part([mark(1, 0, (0, 0)), thing(1, 3)]),
               letters=[(0, 1, ((1, 3),))])


class Pointed(RingWay):
    """A way that tells another paper, for the test of what stands on the base."""

    def seek(self, name):
        RingWay.seek(self, name)
        return ("pointed", name, (name,), ("hand", 0, 0), ())


class RingWayTest(unittest.TestCase):
    def test_both_stand_in_the_class_itself(self):
        self.assertIn("seek", vars(RingWay))
        self.assertIn("verdicts", vars(RingWay))

    def test_a_class_that_stands_on_it(self):
        way = Pointed(TOLD)
        self.assertIsInstance(way, RingWay)
        self.assertEqual(way.verdicts(), [(name, "pointed") for name in all_names(TOLD)])
        with self.assertRaises(NoThing):
            way.seek((0, 1))

    def test_verdicts(self):
        way = RingWay(TOLD)
        expected = [((0, 0), "cut"), ((0, 7), "wanted"), ((1, 0), "cut"), ((1, 3), "wanted")]
        self.assertEqual(way.verdicts(), expected)
        self.assertEqual(RingWay(one_house()).verdicts(), [])
        told, names = chain()
        self.assertEqual(RingWay(told).verdicts(), [(name, "wanted") for name in sorted(names)])

    def test_verdicts_are_built_anew(self):
        for told in (TOLD, one_house()):
            way = RingWay(told)
            first = way.verdicts()
            kept = list(first)
            first.append(((0, 0), "other"))
            first[0] = None
            self.assertEqual(way.verdicts(), kept)

    def test_no_thing(self):
        for told in (one_house(thing(0, 0), hands=[(0, 0)]), one_house(thing(0, 0)), one_house()):
            way = RingWay(told)
            before = way.verdicts()
            for name in NO_THINGS:
                with self.assertRaises(NoThing):
                    way.seek(name)
            self.assertEqual(way.verdicts(), before)

    def test_each_paper_is_let_by_and_told_again(self):
        for seed in range(200):
            told = random_picture(seed)
            before = copy.deepcopy(told)
            found = slowly_reached(told)
            way = RingWay(told)
            for name in all_names(told):
                paper = way.seek(name)
                self.assertEqual(paper, way.seek(name))
                checker = wanted_holds if name in found else cut_holds
                self.assertTrue(checker(told, paper))
            self.assertEqual(way.verdicts(), [(name, "wanted" if name in found else "cut") for name in all_names(told)])
            self.assertEqual(told, before)

    def test_ways_go_their_own_ways(self):
        first, second = RingWay(TOLD), RingWay(one_house(thing(0, 0)))
        self.assertEqual(second.verdicts(), [((0, 0), "cut")])
        self.assertEqual(len(first.verdicts()), 4)
