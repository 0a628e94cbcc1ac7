import unittest

from heldafar.leasepart import LeasePart
from heldafar.parts import Part
from tests.helper import Neighbours

OWN = (1, 4)
OTHER = (0, 3)


def state(part):
    """What is told of all names of four houses."""
    names = [(home, number) for home in range(4) for number in range(12)]
    return ({name: part.lease(name) for name in names if part.lease(name) != -1},
            [name for name in names if part.knows(name)],
            [name for name in names if name[0] == part.house and part.is_held(name)], part.pinned())


NOTHING = ({}, [], [], ())


class HandOnTest(unittest.TestCase):
    def test_it_stands_on_part(self):
        self.assertIsInstance(LeasePart(1), Part)

    def test_a_new_part(self):
        part = LeasePart(1)
        self.assertEqual(state(part), NOTHING)
        self.assertEqual(part.let_go(()), [])
        self.assertEqual(part.lapse(0), ())
        for name in (OWN, OTHER, (7, 99)):
            self.assertEqual(part.lease(name), -1)
            self.assertIs(part.knows(name), False)
        self.assertIs(part.is_held(OWN), False)

    def test_of_an_own_name(self):
        part = LeasePart(1)
        self.assertEqual(part.hand_on(OWN, 2), (8, []))
        self.assertEqual(part.lease(OWN), 8)
        part.lapse(5)
        self.assertEqual(part.lease(OWN), 8)
        self.assertEqual(part.hand_on((1, 0), 0), (13, []))
        self.assertEqual(state(part), ({(1, 0): 13, OWN: 8}, [], [(1, 0), OWN], ()))
        self.assertEqual(part.hand_on(OWN, 0), (13, []))
        self.assertEqual(part.lease(OWN), 13)

    def test_of_anothers_name(self):
        part = LeasePart(1)
        part.got(OTHER, 6)
        part.lapse(3)
        self.assertEqual(part.hand_on(OTHER, 2), (6, []))
        self.assertEqual(part.hand_on(OTHER, 0), (6, []))
        self.assertEqual(state(part), ({OTHER: 6}, [OTHER], [], ()))

    def test_lists_are_built_anew(self):
        part = LeasePart(1)
        part.got(OTHER, 6)
        for ask in (lambda: part.hand_on(OWN, 2)[1], lambda: part.hand_on(OTHER, 2)[1],
                    lambda: part.take(0, ("lent", OTHER, 5)), lambda: part.take(2, ("renew", OWN)),
                    lambda: part.let_go((OTHER,))):
            expected = list(ask())
            ask().append("x")
            self.assertEqual(ask(), expected)


class GotTest(unittest.TestCase):
    def test_the_later_one_counts(self):
        part = LeasePart(1)
        part.got(OTHER, 6)
        self.assertEqual(part.lease(OTHER), 6)
        part.got(OTHER, 4)
        self.assertEqual(part.lease(OTHER), 6)
        part.got(OTHER, 9)
        self.assertEqual(part.lease(OTHER), 9)
        self.assertEqual(state(part), ({OTHER: 9}, [OTHER], [], ()))

    def test_a_lease_of_nought(self):
        part = LeasePart(1)
        part.got(OTHER, 0)
        self.assertEqual(state(part), ({OTHER: 0}, [OTHER], [], ()))

    def test_of_an_own_name(self):
        part = LeasePart(1)
        part.got(OWN, 99)
        self.assertEqual(state(part), NOTHING)
        part.hand_on(OWN, 2)
        part.got(OWN, 99)
        part.got(OWN, 1)
        self.assertEqual(state(part), ({OWN: 8}, [], [OWN], ()))


class TakeTest(unittest.TestCase):
    def test_renew(self):
        part = LeasePart(1)
        part.hand_on(OWN, 2)
        part.lapse(3)
        self.assertEqual(part.take(2, ("renew", OWN)), [(2, ("lent", OWN, 11))])
        self.assertEqual(part.lease(OWN), 11)
        part.lapse(4)
        self.assertEqual(part.take(0, ("renew", OWN)), [(0, ("lent", OWN, 12))])
        self.assertEqual(state(part), ({OWN: 12}, [], [OWN], ()))

    def test_renew_of_a_lease_that_is_over(self):
        part = LeasePart(1)
        part.hand_on(OWN, 2)
        part.lapse(20)
        self.assertIs(part.is_held(OWN), False)
        self.assertEqual(part.take(2, ("renew", OWN)), [(2, ("lent", OWN, 28))])
        self.assertIs(part.is_held(OWN), True)

    def test_lent(self):
        part = LeasePart(1)
        part.got(OTHER, 6)
        self.assertEqual(part.take(0, ("lent", OTHER, 5)), [])
        self.assertEqual(part.lease(OTHER), 6)
        self.assertEqual(part.take(0, ("lent", OTHER, 7)), [])
        self.assertEqual(part.lease(OTHER), 7)

    def test_lent_of_a_name_that_is_not_known(self):
        part = LeasePart(1)
        self.assertEqual(part.take(0, ("lent", OTHER, 7)), [])
        self.assertEqual(state(part), NOTHING)
        part.got(OTHER, 6)
        part.let_go(())
        self.assertEqual(part.take(0, ("lent", OTHER, 9)), [])
        self.assertEqual(state(part), NOTHING)


class TimeTest(unittest.TestCase):
    def test_is_held_till_its_lease(self):
        part = LeasePart(1)
        part.hand_on(OWN, 2)
        for now, held in ((7, True), (8, True), (9, False), (10, False)):
            self.assertEqual(part.lapse(now), ())
            self.assertIs(part.is_held(OWN), held)
            self.assertEqual(part.lease(OWN), 8)

    def test_names_of_others_lapse(self):
        part = LeasePart(1)
        for name, lease in (((3, 1), 5), ((0, 7), 5), ((0, 2), 6), ((2, 2), 4), ((0, 11), 5)):
            part.got(name, lease)
        self.assertEqual(part.lapse(4), ())
        self.assertEqual(part.lapse(5), ((2, 2),))
        self.assertEqual(part.lapse(5), ())
        self.assertEqual(part.lapse(6), ((0, 7), (0, 11), (3, 1)))
        self.assertEqual(state(part), ({(0, 2): 6}, [(0, 2)], [], ()))
        self.assertEqual(part.lapse(99), ((0, 2),))
        self.assertEqual(state(part), NOTHING)

    def test_a_longer_lease_lapses_later(self):
        part = LeasePart(1)
        part.got(OTHER, 3)
        part.take(0, ("lent", OTHER, 5))
        self.assertEqual(part.lapse(4), ())
        self.assertEqual(part.lapse(6), (OTHER,))
        part.got(OTHER, 7)
        self.assertIs(part.knows(OTHER), True)

    def test_own_names_do_not_lapse(self):
        part = LeasePart(1)
        part.hand_on(OWN, 2)
        self.assertEqual(part.lapse(100), ())
        self.assertEqual(state(part), ({OWN: 8}, [], [], ()))
        self.assertEqual(part.hand_on(OWN, 2), (108, []))

    def test_is_over(self):
        part = LeasePart(1)
        part.lapse(4)
        self.assertEqual([part.is_over(lease) for lease in (0, 3, 4, 5)], [True, True, False, False])


class LetGoTest(unittest.TestCase):
    def test_forgets_and_renews(self):
        part = LeasePart(1)
        for name in ((3, 0), (0, 9), (2, 2), (0, 3), (0, 11)):
            part.got(name, 4)
        self.assertEqual(part.let_go(((0, 3), (0, 11), (3, 0))), [
            (0, ("renew", (0, 3))), (0, ("renew", (0, 11))), (3, ("renew", (3, 0)))])
        self.assertEqual(state(part), ({(0, 3): 4, (0, 11): 4, (3, 0): 4}, [(0, 3), (0, 11), (3, 0)], [], ()))
        self.assertEqual(part.let_go(((3, 0),)), [(3, ("renew", (3, 0)))])
        self.assertEqual(part.let_go(((3, 0),)), [(3, ("renew", (3, 0)))])
        self.assertEqual(part.let_go(()), [])
        self.assertEqual(state(part), NOTHING)

    def test_names_that_are_not_known(self):
        part = LeasePart(1)
        part.got(OTHER, 4)
        still = ((0, 2), OTHER, (3, 3))
        self.assertEqual(part.let_go(still), [(0, ("renew", OTHER))])
        self.assertEqual(still, ((0, 2), OTHER, (3, 3)))
        self.assertEqual(state(part), ({OTHER: 4}, [OTHER], [], ()))
        part.lapse(5)
        self.assertEqual(part.let_go(still), [])

    def test_own_names_stay(self):
        part = LeasePart(1)
        part.hand_on(OWN, 2)
        self.assertEqual(part.let_go(()), [])
        self.assertEqual(state(part), ({OWN: 8}, [], [OWN], ()))


class CopiedTest(unittest.TestCase):
    def test_each_goes_its_own_way(self):
        for ways in ((0, 1), (1, 0)):
            part = LeasePart(1)
            part.lapse(2)
            part.got(OTHER, 6)
            part.hand_on(OWN, 2)
            pair = [part, part.copied()]
            here, there = [pair[place] for place in ways]
            self.assertIsInstance(there, LeasePart)
            self.assertEqual(state(here), state(there))
            before = state(there)
            here.got(OTHER, 9)
            here.got((0, 8), 9)
            here.hand_on((1, 9), 0)
            here.lapse(5)
            here.take(2, ("renew", OWN))
            self.assertEqual(state(there), before)
            here.lapse(50)
            here.let_go(())
            self.assertEqual(state(there), before)
            self.assertEqual(there.hand_on((1, 9), 0), (10, []))
            self.assertEqual(there.let_go((OTHER,)), [(0, ("renew", OTHER))])


class Tenants(Neighbours):
    """Houses whose names lapse as time goes on."""

    def __init__(self, seed):
        super().__init__(seed, LeasePart)
        self.now = 0

    def tick(self):
        self.now += 1
        for house, part in enumerate(self.parts):
            self.has[house] -= set(part.lapse(self.now))

    def come(self, way):
        body = self.rows[way][0]
        if body[0] == "hand" and body[2] < self.now:
            self.rows[way].pop(0)
        else:
            super().come(way)

    def held_from_afar(self):
        under_way = {body[1] for row in self.rows.values() for body in row if body[0] == "hand" and body[2] >= self.now}
        return under_way | {name for house in self.houses for name in self.has[house] if name[0] != house}


class SeveralPartsTest(unittest.TestCase):
    def check_held(self, world, seed):
        for name in world.held_from_afar():
            self.assertTrue(world.parts[name[0]].is_held(name), (seed, name))
        for house in world.houses:
            others = [name for name in world.has[house] if name[0] != house]
            self.assertTrue(all(world.parts[house].lease(name) >= world.now for name in others), seed)

    def step_behind(self, world, seed):
        self.check_held(world, seed)
        if world.source.random() < 0.15:
            world.tick()
            self.check_held(world, seed)

    def test_what_has_not_lapsed_is_held(self):
        long_held = 0
        for seed in range(60):
            world = Tenants(seed)
            world.run(300, lambda: self.step_behind(world, seed))
            long_held += len(world.held_from_afar())
            for house in world.houses:
                world.has[house] = {name for name in world.has[house] if name[0] == house}
                world.let_go(house)
            for again in range(10):
                world.tick()
                self.check_held(world, seed)
                world.come_all()
                for house in world.houses:
                    world.has[house] = {name for name in world.has[house] if name[0] == house}
                    world.let_go(house)
            world.tick()
            for part in world.parts:
                self.assertIs(part.is_held((part.house, 0)), False)
                self.assertEqual(state(part)[1:], NOTHING[1:])
        # Some are still held by renewed leases: they weren't lost by and by.
        self.assertGreater(long_held, 30)
