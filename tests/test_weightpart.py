import unittest
from fractions import Fraction

from heldafar.parts import Part
from heldafar.weightpart import WeightPart
from tests.helper import Neighbours

OWN = (1, 4)
OTHER = (0, 3)


def state(part):
    """What is told of all names of four houses."""
    names = [(home, number) for home in range(4) for number in range(12)]
    return ({name: part.out(name) for name in names if part.out(name) != (0, 1)},
            {name: part.weight(name) for name in names if part.weight(name) != (0, 1)},
            [name for name in names if part.knows(name)], [name for name in names if part.is_held(name)],
            part.pinned())


NOTHING = ({}, {}, [], [], ())


class HandOnTest(unittest.TestCase):
    def test_it_stands_on_part(self):
        self.assertIsInstance(WeightPart(1), Part)

    def test_a_new_part(self):
        part = WeightPart(1)
        self.assertEqual(state(part), NOTHING)
        self.assertEqual(part.let_go(()), [])
        for name in (OWN, OTHER, (7, 99)):
            self.assertEqual(part.out(name), (0, 1))
            self.assertEqual(part.weight(name), (0, 1))
            self.assertIs(part.is_held(name), False)
            self.assertIs(part.knows(name), False)

    def test_of_an_own_name(self):
        part = WeightPart(1)
        self.assertEqual(part.hand_on(OWN, 2), ((1, 1), []))
        self.assertEqual(part.out(OWN), (1, 1))
        self.assertIs(part.is_held(OWN), True)
        self.assertEqual(part.hand_on(OWN, 0), ((1, 1), []))
        self.assertEqual(part.out(OWN), (2, 1))
        self.assertEqual(part.hand_on((1, 0), 0), ((1, 1), []))
        self.assertEqual(state(part), ({(1, 0): (1, 1), OWN: (2, 1)}, {}, [], [(1, 0), OWN], ()))

    def test_of_anothers_name(self):
        part = WeightPart(1)
        part.got(OTHER, (1, 1))
        self.assertEqual(part.hand_on(OTHER, 2), ((1, 2), []))
        self.assertEqual(part.weight(OTHER), (1, 2))
        self.assertEqual(part.hand_on(OTHER, 0), ((1, 4), []))
        self.assertEqual(part.weight(OTHER), (1, 4))
        self.assertEqual(part.hand_on(OTHER, 3), ((1, 8), []))
        self.assertEqual(state(part), ({}, {OTHER: (1, 8)}, [OTHER], [], ()))

    def test_half_is_in_lowest_terms(self):
        part = WeightPart(1)
        part.got(OTHER, (2, 1))
        self.assertEqual(part.hand_on(OTHER, 2), ((1, 1), []))
        self.assertEqual(part.weight(OTHER), (1, 1))
        part.got((0, 4), (2, 3))
        self.assertEqual(part.hand_on((0, 4), 2), ((1, 3), []))
        self.assertEqual(part.weight((0, 4)), (1, 3))

    def test_many_times(self):
        part = WeightPart(1)
        part.got(OTHER, (1, 1))
        handed = []
        for again in range(1, 301):
            extra, letters = part.hand_on(OTHER, 2)
            self.assertEqual((extra, letters), ((1, 2 ** again), []))
            self.assertEqual(part.weight(OTHER), (1, 2 ** again))
            handed.append(extra)
        self.assertIs(part.knows(OTHER), True)
        for extra in handed:
            part.got(OTHER, extra)
        self.assertEqual(part.weight(OTHER), (1, 1))

    def test_lists_are_built_anew(self):
        part = WeightPart(1)
        part.got(OTHER, (1, 1))
        part.hand_on(OWN, 2)[1].append("x")
        part.hand_on(OTHER, 2)[1].append("x")
        self.assertEqual((part.hand_on(OWN, 2)[1], part.hand_on(OTHER, 2)[1]), ([], []))
        part.take(2, ("back", OWN, (1, 2))).append("x")
        self.assertEqual(part.take(2, ("back", OWN, (1, 2))), [])
        part.let_go((OTHER,)).append("x")
        self.assertEqual(part.let_go((OTHER,)), [])


class GotTest(unittest.TestCase):
    def test_of_anothers_name(self):
        part = WeightPart(1)
        part.got(OTHER, (1, 2))
        self.assertEqual(part.weight(OTHER), (1, 2))
        part.got(OTHER, (1, 4))
        self.assertEqual(part.weight(OTHER), (3, 4))
        self.assertIs(part.knows(OTHER), True)
        self.assertIs(part.is_held(OTHER), False)
        part.got((0, 4), (1, 2))
        part.got((0, 4), (1, 2))
        self.assertEqual(part.weight((0, 4)), (1, 1))
        part.got((0, 4), (1, 1))
        self.assertEqual(part.weight((0, 4)), (2, 1))
        self.assertEqual(state(part), ({}, {OTHER: (3, 4), (0, 4): (2, 1)}, [OTHER, (0, 4)], [], ()))

    def test_of_an_own_name(self):
        part = WeightPart(1)
        part.hand_on(OWN, 2)
        part.got(OWN, (1, 4))
        self.assertEqual(part.out(OWN), (3, 4))
        self.assertIs(part.knows(OWN), False)
        self.assertEqual(part.weight(OWN), (0, 1))
        part.got(OWN, (1, 4))
        self.assertEqual(part.out(OWN), (1, 2))
        self.assertIs(part.is_held(OWN), True)
        part.got(OWN, (1, 2))
        self.assertEqual(state(part), NOTHING)


class TakeTest(unittest.TestCase):
    def test_back(self):
        part = WeightPart(1)
        part.hand_on(OWN, 2)
        part.hand_on(OWN, 2)
        part.hand_on((1, 5), 2)
        self.assertEqual(part.take(2, ("back", OWN, (1, 8))), [])
        self.assertEqual(part.out(OWN), (15, 8))
        self.assertEqual(part.take(3, ("back", OWN, (7, 8))), [])
        self.assertEqual(part.out(OWN), (1, 1))
        self.assertIs(part.is_held(OWN), True)
        self.assertEqual(part.take(2, ("back", OWN, (1, 1))), [])
        self.assertEqual(state(part), ({(1, 5): (1, 1)}, {}, [], [(1, 5)], ()))

    def test_no_name_of_another_is_held(self):
        part = WeightPart(1)
        part.got(OTHER, (1, 2))
        part.hand_on(OTHER, 2)
        part.take(2, ("back", OTHER, (1, 4)))
        self.assertIs(part.is_held(OTHER), False)


class LetGoTest(unittest.TestCase):
    def test_letters_rise_by_name(self):
        part = WeightPart(1)
        for name in ((3, 0), (0, 9), (2, 2), (0, 3), (3, 0), (0, 11)):
            part.got(name, (1, 4))
        self.assertEqual(part.let_go(((0, 11),)), [
            (0, ("back", (0, 3), (1, 4))), (0, ("back", (0, 9), (1, 4))), (2, ("back", (2, 2), (1, 4))),
            (3, ("back", (3, 0), (1, 2))),
        ])
        self.assertEqual(state(part), ({}, {(0, 11): (1, 4)}, [(0, 11)], [], ()))
        self.assertEqual(part.let_go(((0, 11),)), [])
        self.assertEqual(part.let_go(()), [(0, ("back", (0, 11), (1, 4)))])
        self.assertEqual(part.let_go(()), [])
        self.assertEqual(state(part), NOTHING)

    def test_all_that_is_here_goes(self):
        part = WeightPart(1)
        part.got(OTHER, (1, 1))
        part.hand_on(OTHER, 2)
        part.got(OTHER, (1, 4))
        self.assertEqual(part.let_go(()), [(0, ("back", OTHER, (3, 4)))])
        self.assertIs(part.knows(OTHER), False)
        part.got(OTHER, (1, 8))
        self.assertEqual(part.let_go(()), [(0, ("back", OTHER, (1, 8)))])

    def test_names_that_are_not_known(self):
        part = WeightPart(1)
        part.got(OTHER, (1, 2))
        still = ((0, 2), OTHER, (3, 3))
        self.assertEqual(part.let_go(still), [])
        self.assertEqual(still, ((0, 2), OTHER, (3, 3)))
        self.assertEqual(state(part), ({}, {OTHER: (1, 2)}, [OTHER], [], ()))

    def test_own_names_stay(self):
        part = WeightPart(1)
        part.hand_on(OWN, 2)
        self.assertEqual(part.let_go(()), [])
        self.assertEqual(part.out(OWN), (1, 1))

    def test_lapse(self):
        part = WeightPart(1)
        part.got(OTHER, (1, 2))
        part.hand_on(OWN, 2)
        before = state(part)
        for now in (0, 9, 99999):
            self.assertEqual(part.lapse(now), ())
        self.assertEqual(state(part), before)


class CopiedTest(unittest.TestCase):
    def test_each_goes_its_own_way(self):
        for ways in ((0, 1), (1, 0)):
            part = WeightPart(1)
            part.got(OTHER, (1, 2))
            part.hand_on(OWN, 2)
            pair = [part, part.copied()]
            here, there = [pair[place] for place in ways]
            self.assertIsInstance(there, WeightPart)
            self.assertEqual(state(here), state(there))
            before = state(there)
            here.got(OTHER, (1, 4))
            here.got((0, 8), (1, 4))
            here.hand_on(OWN, 2)
            here.hand_on((1, 9), 0)
            here.hand_on(OTHER, 2)
            self.assertEqual(state(there), before)
            here.let_go(())
            here.take(2, ("back", OWN, (2, 1)))
            self.assertEqual(state(there), before)
            self.assertEqual(there.let_go(()), [(0, ("back", OTHER, (1, 2)))])
            self.assertEqual(there.out(OWN), (1, 1))


class SeveralPartsTest(unittest.TestCase):
    def check_whole(self, world, seed):
        """What is out of each name is all weights put together."""
        whole = {(house, 0): Fraction(0) for house in world.houses}
        for name in whole:
            for part in world.parts:
                whole[name] += Fraction(*part.weight(name))
            for row in world.rows.values():
                for body in row:
                    # Both letters, "hand" and "back", have the name and then its weight.
                    whole[name] += Fraction(*body[2]) if body[1] == name else 0
            out = world.parts[name[0]].out(name)
            self.assertEqual(out, (whole[name].numerator, whole[name].denominator), (seed, name))
        for name in world.held_from_afar():
            self.assertTrue(world.parts[name[0]].is_held(name), (seed, name))

    def test_weights_are_the_whole(self):
        for seed in range(60):
            world = Neighbours(seed, WeightPart)
            world.run(200, lambda: self.check_whole(world, seed))
            # Names may still come to houses that have let go: these let go once more.
            for again in range(2):
                world.come_all()
                for house in world.houses:
                    world.has[house].clear()
                    world.let_go(house)
                self.check_whole(world, seed)
            world.come_all()
            for part in world.parts:
                self.assertEqual(state(part), NOTHING)
