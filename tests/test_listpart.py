import unittest

from heldafar.listpart import ListPart
from heldafar.parts import Part
from tests.helper import Neighbours

OWN = (1, 4)
OTHER = (0, 3)


def names_known(part):
    return [(home, number) for home in range(4) for number in range(12) if part.knows((home, number))]


def counts(part):
    """Of all own names what is told."""
    return {(part.house, number): part.told((part.house, number)) for number in range(12)
            if part.told((part.house, number)) != ()}


def state(part):
    return names_known(part), counts(part), part.pinned()


class HandOnTest(unittest.TestCase):
    def test_it_stands_on_part(self):
        self.assertIsInstance(ListPart(1), Part)

    def test_a_new_part(self):
        part = ListPart(1)
        self.assertEqual(state(part), ([], {}, ()))
        self.assertIs(part.is_held(OWN), False)
        self.assertIs(part.is_held(OTHER), False)
        self.assertEqual(part.let_go(()), [])
        self.assertEqual(part.told(OWN), ())
        self.assertEqual(part.told(OTHER), ())

    def test_of_an_own_name(self):
        part = ListPart(1)
        self.assertEqual(part.hand_on(OWN, 2), (0, []))
        self.assertEqual(part.told(OWN), ((2, 1),))
        self.assertEqual(part.hand_on(OWN, 0), (0, []))
        self.assertEqual(part.hand_on(OWN, 2), (0, []))
        self.assertEqual(part.told(OWN), ((0, 1), (2, 2)))
        self.assertEqual(part.told((1, 5)), ())
        self.assertEqual(state(part), ([], {OWN: ((0, 1), (2, 2))}, ()))

    def test_of_anothers_name_to_its_home(self):
        part = ListPart(1)
        self.assertEqual(part.hand_on(OTHER, 0), (0, []))
        self.assertEqual(state(part), ([], {}, ()))
        part.got(OTHER, 0)
        self.assertEqual(part.hand_on(OTHER, 0), (0, []))
        self.assertEqual(state(part), ([OTHER], {}, ()))
        self.assertEqual(part.let_go(()), [(0, ("let go", OTHER, 1))])

    def test_of_anothers_name_to_a_third_house(self):
        part = ListPart(1)
        part.got(OTHER, 0)
        self.assertEqual(part.hand_on(OTHER, 2), (0, [(0, ("list", OTHER, 2))]))
        self.assertEqual(part.pinned(), (OTHER,))
        self.assertEqual(part.hand_on(OTHER, 3), (0, [(0, ("list", OTHER, 3))]))
        self.assertEqual(part.hand_on((3, 1), 0), (0, [(3, ("list", (3, 1), 0))]))
        self.assertEqual(part.hand_on((0, 2), 2), (0, [(0, ("list", (0, 2), 2))]))
        self.assertEqual(part.pinned(), ((0, 2), OTHER, (3, 1)))
        self.assertEqual(counts(part), {})
        self.assertEqual(part.told(OTHER), ())

    def test_lists_are_built_anew(self):
        part = ListPart(1)
        for name, to in ((OWN, 2), (OTHER, 0), (OTHER, 2)):
            expected = part.copied().hand_on(name, to)[1]
            part.hand_on(name, to)[1].append("x")
            self.assertEqual(part.hand_on(name, to)[1], expected)
        part.let_go(()).append("x")
        self.assertEqual(part.let_go(()), [])
        part.take(0, ("listed", OTHER)).append("x")
        self.assertEqual(part.take(0, ("let go", OWN, 1)), [])


class GotTest(unittest.TestCase):
    def test_of_anothers_name(self):
        part = ListPart(1)
        part.got(OTHER, 0)
        self.assertIs(part.knows(OTHER), True)
        self.assertIs(part.knows((0, 4)), False)
        self.assertIs(part.is_held(OTHER), False)
        self.assertEqual((part.pinned(), counts(part)), ((), {}))

    def test_of_an_own_name(self):
        part = ListPart(1)
        part.got(OWN, 0)
        self.assertEqual(state(part), ([], {}, ()))
        self.assertIs(part.knows(OWN), False)
        self.assertIs(part.is_held(OWN), False)
        self.assertEqual(part.let_go(()), [])
        part.hand_on(OWN, 0)
        part.got(OWN, 5)
        self.assertEqual(part.told(OWN), ((0, 1),))
        self.assertIs(part.knows(OWN), False)

    def test_whatever_number_stands_beside_it(self):
        part = ListPart(1)
        for extra in (0, 7, 10 ** 5000):
            part.got(OTHER, extra)
        self.assertEqual(part.let_go(()), [(0, ("let go", OTHER, 3))])


class TakeTest(unittest.TestCase):
    def test_list(self):
        part = ListPart(1)
        self.assertEqual(part.take(0, ("list", OWN, 2)), [(0, ("listed", OWN))])
        self.assertEqual(part.told(OWN), ((2, 1),))
        self.assertEqual(part.take(3, ("list", OWN, 2)), [(3, ("listed", OWN))])
        self.assertEqual(part.take(2, ("list", OWN, 0)), [(2, ("listed", OWN))])
        self.assertEqual(part.told(OWN), ((0, 1), (2, 2)))
        self.assertIs(part.is_held(OWN), True)
        self.assertEqual(state(part), ([], {OWN: ((0, 1), (2, 2))}, ()))

    def test_listed(self):
        part = ListPart(1)
        part.hand_on(OTHER, 2)
        part.hand_on(OTHER, 2)
        self.assertEqual(part.pinned(), (OTHER,))
        self.assertEqual(part.take(0, ("listed", OTHER)), [])
        self.assertEqual(part.pinned(), (OTHER,))
        self.assertIs(part.knows(OTHER), True)
        self.assertEqual(part.take(0, ("listed", OTHER)), [])
        self.assertEqual(part.pinned(), ())
        self.assertIs(part.knows(OTHER), False)

    def test_listed_once_more_than_it_was_pinned(self):
        part = ListPart(1)
        self.assertEqual(part.take(0, ("listed", OTHER)), [])
        self.assertEqual(state(part), ([], {}, ()))
        part.hand_on(OTHER, 2)
        self.assertEqual(part.pinned(), (OTHER,))

    def test_let_go(self):
        part = ListPart(1)
        for again in range(3):
            part.hand_on(OWN, 2)
        part.hand_on(OWN, 0)
        self.assertEqual(part.take(2, ("let go", OWN, 2)), [])
        self.assertEqual(part.told(OWN), ((0, 1), (2, 1)))
        self.assertEqual(part.take(2, ("let go", OWN, 1)), [])
        self.assertEqual(part.told(OWN), ((0, 1),))
        self.assertIs(part.is_held(OWN), True)
        self.assertEqual(part.take(0, ("let go", OWN, 1)), [])
        self.assertEqual(part.told(OWN), ())
        self.assertIs(part.is_held(OWN), False)

    def test_let_go_ahead_of_the_list(self):
        part = ListPart(1)
        self.assertEqual(part.take(2, ("let go", OWN, 2)), [])
        self.assertEqual(part.told(OWN), ((2, -2),))
        self.assertIs(part.is_held(OWN), True)
        part.take(0, ("list", OWN, 2))
        self.assertEqual(part.told(OWN), ((2, -1),))
        self.assertIs(part.is_held(OWN), True)
        part.take(0, ("list", OWN, 2))
        self.assertEqual(part.told(OWN), ())
        self.assertIs(part.is_held(OWN), False)

    def test_counts_of_several_houses_do_not_make_up_for_each_other(self):
        part = ListPart(1)
        part.take(2, ("let go", OWN, 1))
        part.hand_on(OWN, 0)
        self.assertEqual(part.told(OWN), ((0, 1), (2, -1)))
        self.assertIs(part.is_held(OWN), True)
        self.assertIs(part.is_held((1, 5)), False)

    def test_no_name_of_another_is_held(self):
        part = ListPart(1)
        part.got(OTHER, 0)
        part.hand_on(OTHER, 2)
        part.take(2, ("let go", OTHER, 1))
        part.take(2, ("list", OTHER, 3))
        self.assertIs(part.is_held(OTHER), False)

    def test_let_go_of_none(self):
        part = ListPart(1)
        part.take(2, ("let go", OWN, 0))
        self.assertEqual(part.told(OWN), ())
        self.assertIs(part.is_held(OWN), False)
        part.hand_on(OWN, 2)
        part.take(2, ("let go", OWN, 0))
        self.assertEqual(part.told(OWN), ((2, 1),))


class LetGoTest(unittest.TestCase):
    def test_letters_rise_by_name(self):
        part = ListPart(1)
        for name in ((3, 0), (0, 9), (2, 2), (0, 3), (3, 0), (0, 11), (3, 0)):
            part.got(name, 0)
        self.assertEqual(part.let_go(((0, 11),)), [
            (0, ("let go", (0, 3), 1)), (0, ("let go", (0, 9), 1)), (2, ("let go", (2, 2), 1)),
            (3, ("let go", (3, 0), 3)),
        ])
        self.assertEqual(names_known(part), [(0, 11)])
        self.assertEqual(part.let_go(((0, 11),)), [])
        self.assertEqual(part.let_go(()), [(0, ("let go", (0, 11), 1))])
        self.assertEqual(part.let_go(()), [])

    def test_got_again(self):
        part = ListPart(1)
        part.got(OTHER, 0)
        part.got(OTHER, 0)
        part.let_go(())
        part.got(OTHER, 0)
        self.assertIs(part.knows(OTHER), True)
        self.assertEqual(part.let_go(()), [(0, ("let go", OTHER, 1))])
        self.assertIs(part.knows(OTHER), False)

    def test_names_that_are_not_known(self):
        part = ListPart(1)
        part.got(OTHER, 0)
        still = ((0, 2), OTHER, (3, 3))
        self.assertEqual(part.let_go(still), [])
        self.assertEqual(still, ((0, 2), OTHER, (3, 3)))
        self.assertEqual(state(part), ([OTHER], {}, ()))

    def test_pinned_names_stay(self):
        part = ListPart(1)
        part.got(OTHER, 0)
        part.got((0, 2), 0)
        part.hand_on(OTHER, 2)
        self.assertEqual(part.let_go(()), [(0, ("let go", (0, 2), 1))])
        self.assertEqual(state(part), ([OTHER], {}, (OTHER,)))
        self.assertEqual(part.let_go(()), [])
        part.take(0, ("listed", OTHER))
        self.assertIs(part.knows(OTHER), True)
        self.assertEqual(part.let_go((OTHER,)), [])
        self.assertEqual(part.let_go(()), [(0, ("let go", OTHER, 1))])
        self.assertIs(part.knows(OTHER), False)

    def test_what_is_pinned_is_known_whatever_was_let_go_of(self):
        part = ListPart(1)
        part.got(OTHER, 0)
        part.let_go(())
        part.hand_on(OTHER, 2)
        self.assertIs(part.knows(OTHER), True)
        self.assertEqual(part.let_go(()), [])
        self.assertIs(part.knows(OTHER), True)
        part.take(0, ("listed", OTHER))
        self.assertIs(part.knows(OTHER), False)
        self.assertEqual(part.let_go(()), [])

    def test_own_names_stay(self):
        part = ListPart(1)
        part.hand_on(OWN, 2)
        part.got(OWN, 0)
        self.assertEqual(part.let_go(()), [])
        self.assertEqual(part.told(OWN), ((2, 1),))

    def test_lapse(self):
        part = ListPart(1)
        part.got(OTHER, 0)
        part.hand_on(OWN, 2)
        before = state(part)
        for now in (0, 9, 99999):
            self.assertEqual(part.lapse(now), ())
        self.assertEqual(state(part), before)


class CopiedTest(unittest.TestCase):
    def test_each_goes_its_own_way(self):
        for ways in ((0, 1), (1, 0)):
            part = ListPart(1)
            part.got(OTHER, 0)
            part.got((3, 1), 0)
            part.hand_on((3, 1), 2)
            part.hand_on(OWN, 2)
            pair = [part, part.copied()]
            here, there = [pair[place] for place in ways]
            self.assertIsInstance(there, ListPart)
            self.assertEqual(state(here), state(there))
            before = state(there)
            here.got(OTHER, 0)
            here.got((0, 8), 0)
            here.hand_on(OWN, 2)
            here.hand_on((1, 9), 0)
            here.hand_on(OTHER, 2)
            here.take(3, ("listed", (3, 1)))
            self.assertEqual(state(there), before)
            here.let_go(())
            here.take(2, ("let go", OWN, 2))
            self.assertEqual(state(there), before)
            self.assertEqual(there.let_go(()), [(0, ("let go", OTHER, 1))])
            self.assertEqual(there.told(OWN), ((2, 1),))


class SeveralPartsTest(unittest.TestCase):
    def check_held(self, seed, world):
        for name in world.held_from_afar():
            self.assertTrue(world.parts[name[0]].is_held(name), (seed, name))

    def check_nothing_left(self, world):
        for house in world.houses:
            world.has[house].clear()
        # A name that was pinned when it was to go stays till its home has listed it.
        for again in range(3):
            for house in world.houses:
                world.let_go(house)
            world.come_all()
            for house in world.houses:
                world.has[house].clear()
        for part in world.parts:
            self.assertEqual(state(part), ([], {}, ()))
            self.assertIs(part.is_held((part.house, 0)), False)

    def test_what_is_held_stays_held_and_what_is_let_go_of_goes(self):
        for seed in range(60):
            world = Neighbours(seed, ListPart)
            world.run(200, lambda: self.check_held(seed, world))
            self.check_nothing_left(world)
