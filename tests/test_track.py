import unittest

from heldafar.errors import NoThing
from heldafar.papers import cut_holds, wanted_holds
from heldafar.track import Track
from tests.helper import (
    NO_THINGS, all_names, chain, held, mark, one_house, part, picture, random_picture, ring, slowly_come_to, thing,
)

TOLD = picture(
    part([thing(0, 0, (1, 0), (0, 0)), thing(0, 1, (0, 0)), thing(0, 2)], still=[(0, 2)]),
    part([mark(1, 0, (1, 1)), thing(1, 1, None, (0, 2)), thing(1, 2, (1, 2))]),
    letters=[(0, 1, ((1, 2),))],
)


class TrackTest(unittest.TestCase):
    def test_gone(self):
        expected = {
            (0, 0): [(0, 0), (0, 1)],
            (0, 1): [(0, 1)],
            (0, 2): [(0, 0), (0, 1), (0, 2), (1, 0), (1, 1)],
            (1, 0): [(0, 0), (0, 1), (1, 0)],
            (1, 1): [(0, 0), (0, 1), (1, 0), (1, 1)],
            (1, 2): [(1, 2)],
        }
        way = Track(TOLD)
        for name, names in expected.items():
            self.assertEqual(way.gone(name), names)

    def test_seek(self):
        way = Track(TOLD)
        letters = (((1, 2),),)
        self.assertEqual(way.seek((0, 2)), ("wanted", (0, 2), ("hand", 0, 4), ()))
        self.assertEqual(way.seek((1, 2)), ("wanted", (1, 2), ("letter", 0, 0), ()))
        # Of what can't be come to the cut has just what leads there.
        self.assertEqual(way.seek((0, 1)), ("cut", ((0, 1),), letters))
        self.assertEqual(way.seek((1, 1)), ("cut", ((0, 0), (0, 1), (1, 0), (1, 1)), letters))

    def test_a_hand_further_back(self):
        told = one_house(thing(0, 0, None, (0, 1)), thing(0, 1, (0, 2)), thing(0, 2), hands=[None, (0, 0)])
        self.assertEqual(Track(told).seek((0, 2)), ("wanted", (0, 2), ("hand", 0, 1), (((0, 0), 1), ((0, 1), 0))))

    def test_gone_of_no_thing(self):
        for told in (one_house(thing(0, 0)), one_house()):
            for name in NO_THINGS:
                with self.assertRaises(NoThing):
                    Track(told).gone(name)

    def test_gone_is_built_anew(self):
        way = Track(TOLD)
        way.gone((0, 0)).append((1, 1))
        way.gone((0, 0)).clear()
        self.assertEqual(way.gone((0, 0)), [(0, 0), (0, 1)])
        self.assertEqual(way.seek((0, 0)), ("cut", ((0, 0), (0, 1)), (((1, 2),),)))

    def test_rings_and_chains(self):
        told = ring(8, 24)
        self.assertEqual(Track(told).gone((3, 1)), all_names(told))
        told, names = chain()
        self.assertEqual(Track(told).gone(names[-1]), sorted(names))
        self.assertEqual(Track(told).gone(names[9]), sorted(names[:10]))
        self.assertTrue(wanted_holds(told, Track(told).seek(names[-1])))

    def test_many_pictures(self):
        wanted, cut = 0, 0
        for seed in range(400):
            told = random_picture(seed)
            way = Track(told)
            for name in all_names(told):
                leading = [other for other in all_names(told) if name in slowly_come_to(told, [other])]
                self.assertEqual(way.gone(name), leading)
                paper = way.seek(name)
                if held(told) & set(leading):
                    self.assertEqual(paper[:2], ("wanted", name))
                    self.assertTrue(wanted_holds(told, paper))
                    wanted += 1
                else:
                    self.assertEqual(paper[:2], ("cut", tuple(leading)))
                    self.assertTrue(cut_holds(told, paper))
                    cut += 1
        self.assertGreater(wanted, 100)
        self.assertGreater(cut, 100)
