import unittest

from heldafar.errors import NoThing
from heldafar.house import House
from tests.helper import WAYS, asks_told, fields_of, house_state, house_with, pointer, to_hand


def names(house):
    return [name for name, sort, fields in house.things()]


class SweepTest(unittest.TestCase):
    def test_what_hands_lead_to_stays(self):
        for way in WAYS:
            house = house_with(way, 1, 1, 1, 1)
            house.do(("put", 0, 0, 2))
            for hand in (1, 2, 3):
                house.do(("drop", hand))
            self.assertEqual(house.do(("sweep",)), ("swept", ((0, 1), (0, 3))))
            self.assertEqual(names(house), [(0, 0), (0, 2)])
            self.assertEqual(house.do(("sweep",)), ("swept", ()))

    def test_a_chain_of_forty(self):
        for way in WAYS:
            house = House(0, 2, way)
            house.do(("make", 0, 1))
            house.do(("copy", 0, 1))
            for number in range(39):
                house.do(("make", 2, 1))
                house.do(("put", 1, 0, 2))
                house.do(("copy", 2, 1))
            house.do(("drop", 1))
            house.do(("drop", 2))
            self.assertEqual(house.do(("sweep",)), ("swept", ()))
            self.assertEqual(len(house.things()), 40)
            house.do(("drop", 0))
            self.assertEqual(house.do(("sweep",)), ("swept", tuple((0, number) for number in range(40))))
            self.assertEqual(house.things(), ())

    def test_a_ring(self):
        for way in WAYS:
            house = house_with(way, 1, 1)
            house.do(("put", 0, 0, 1))
            house.do(("put", 1, 0, 0))
            house.do(("drop", 0))
            self.assertEqual(house.do(("sweep",)), ("swept", ()))
            house.do(("drop", 1))
            self.assertEqual(house.do(("sweep",)), ("swept", ((0, 0), (0, 1))))

    def test_what_is_held_stays_with_all_it_leads_to(self):
        for way in WAYS:
            house = house_with(way, 1, 1, 1)
            house.do(("put", 0, 0, 1))
            house.do(("send", 0, 1, 0))
            for hand in range(3):
                house.do(("drop", hand))
            self.assertEqual(house.do(("sweep",)), ("swept", ((0, 2),)))
            self.assertEqual(names(house), [(0, 0), (0, 1)])

    def test_what_is_held_no_more_goes(self):
        house = house_with("lists", 1)
        house.do(("send", 0, 1, 0))
        house.do(("drop", 0))
        house.hear(1, ("let go", (0, 0), 1))
        self.assertEqual(house.do(("sweep",)), ("swept", ((0, 0),)))
        house = house_with("weights", 1)
        house.do(("send", 0, 1, 0))
        house.do(("drop", 0))
        house.hear(1, ("back", (0, 0), (1, 2)))
        self.assertEqual(house.do(("sweep",)), ("swept", ()))
        house.hear(2, ("back", (0, 0), (1, 2)))
        self.assertEqual(house.do(("sweep",)), ("swept", ((0, 0),)))
        house = house_with("leases", 1)
        house.do(("send", 0, 1, 0))
        house.do(("drop", 0))
        house.lapse(8)
        self.assertEqual(house.do(("sweep",)), ("swept", ()))
        house.lapse(9)
        self.assertEqual(house.do(("sweep",)), ("swept", ((0, 0),)))

    def test_marks(self):
        for way in WAYS:
            house = house_with(way, 1, 1)
            house.do(("send", 0, 2, 0))
            for hand, number in ((0, 0), (1, 1)):
                house.do(("move", hand, 1))
                house.hear(1, ("answer", number, "value", pointer(way, 1, 8 + number)))
                house.do(("drop", hand))
            self.assertEqual(house.do(("sweep",)), ("swept", ((0, 1),)))
            self.assertEqual(house.things(), (((0, 0), "mark", ((1, 8),)),))
            self.assertIs(house.part.knows((1, 8)), True)
            self.assertIs(house.part.knows((1, 9)), False)

    def test_a_mark_leads_on_to_a_thing_here(self):
        for way in WAYS:
            house = house_with(way, 1)
            house.do(("send", 0, 2, 0))
            house.do(("move", 0, 1))
            house.hear(1, ("answer", 0, "value", pointer(way, 1, 9)))
            house.hear(1, ("build", 0, (None,)))
            house.do(("ask", 0, 0, 3))
            house.hear(1, ("answer", 1, "mark", pointer(way, 0, 1)))
            house.do(("drop", 0))
            # Nobody holds the new thing but the mark.
            if way == "lists":
                house.hear(1, ("let go", (0, 1), 1))
            elif way == "weights":
                house.hear(1, ("back", (0, 1), (1, 2)))
            else:
                house.lapse(8)
                house.hear(2, ("renew", (0, 0)))
                house.lapse(9)
            self.assertIs(house.part.is_held((0, 1)), False)
            self.assertEqual(house.do(("sweep",)), ("swept", ()))
            self.assertEqual(house.things(), (((0, 0), "mark", ((0, 1),)), ((0, 1), "thing", (None,))))

    def test_what_is_still_to_be_told(self):
        for way in WAYS:
            house = house_with(way, 1, 1)
            house.do(("put", 0, 0, 1))
            to_hand(house, 3, 1, 7)
            to_hand(house, 2, 2, 4)
            house.do(("tell", 3, 0, 0))
            house.do(("tell", 3, 0, 2))
            for hand in range(4):
                house.do(("drop", hand))
            if way == "lists":
                # Lists hold both from afar, too.
                house.hear(1, ("let go", (0, 0), 1))
            elif way == "weights":
                house.hear(1, ("back", (0, 0), (1, 1)))
            self.assertEqual(house.do(("sweep",)), ("swept", ()))
            self.assertEqual(names(house), [(0, 0), (0, 1)])
            self.assertIs(house.part.knows((2, 4)), True)
            self.assertIs(house.part.knows((1, 7)), False)

    def test_letters_of_let_go(self):
        expected = {
            "lists": ([("let go", (1, 3), 1), ("let go", (1, 5), 2)], [("let go", (2, 4), 1)]),
            "weights": ([("back", (1, 3), (1, 2)), ("back", (1, 5), (1, 1))], [("back", (2, 4), (1, 2))]),
            "leases": ([("renew", (1, 7)), ("renew", (1, 8))], [("renew", (2, 1)), ("renew", (2, 9))]),
        }
        for way in WAYS:
            house = house_with(way, 2)
            for number, home in ((5, 1), (3, 1), (4, 2), (5, 1)):
                to_hand(house, 1, home, number)
            to_hand(house, 2, 1, 8)
            house.do(("put", 0, 1, 2))
            to_hand(house, 3, 2, 9)
            house.do(("move", 0, 1))
            house.hear(2, ("build", 0, (pointer(way, 2, 1),)))
            to_hand(house, 1, 1, 7)
            before = [len(house.mail.unowned(to)) for to in (1, 2)]
            self.assertEqual(house.do(("sweep",)), ("swept", ()))
            after = [house.mail.unowned(to)[many:] for to, many in zip((1, 2), before)]
            self.assertEqual(tuple(after), expected[way])
            for name in ((1, 7), (1, 8), (2, 1), (2, 9)):
                self.assertIs(house.part.knows(name), True)
            for name in ((1, 3), (1, 5), (2, 4)):
                self.assertIs(house.part.knows(name), False)

    def test_names_of_what_is_taken_up_are_let_go_of(self):
        for way in WAYS:
            house = house_with(way, 1)
            to_hand(house, 1, 1, 8)
            house.do(("put", 0, 0, 1))
            house.do(("drop", 0))
            house.do(("drop", 1))
            self.assertEqual(house.do(("sweep",)), ("swept", ((0, 0),)))
            self.assertIs(house.part.knows((1, 8)), False)

    def test_pinned_names_are_kept(self):
        house = House(0, 3, "lists")
        to_hand(house, 1, 1, 8)
        house.do(("send", 1, 2, 0))
        house.do(("drop", 1))
        house.do(("sweep",))
        self.assertEqual(house.mail.unowned(1), [("list", (1, 8), 2)])
        house.hear(1, ("listed", (1, 8)))
        house.do(("sweep",))
        self.assertEqual(house.mail.unowned(1), [("list", (1, 8), 2), ("let go", (1, 8), 1)])


class LapseTest(unittest.TestCase):
    def house(self):
        """Each name of another house in a hand, a field, a mark and a tell, with a lease till 8."""
        house = house_with("leases", 2, 1)
        to_hand(house, 2, 1, 7)
        to_hand(house, 3, 2, 5)
        house.do(("put", 0, 1, 2))
        house.do(("put", 1, 0, 3))
        house.do(("tell", 3, 0, 2))
        house.do(("tell", 3, 0, 1))
        house.do(("make", 1, 0))
        house.do(("move", 1, 1))
        house.hear(1, ("answer", 2, "value", ((1, 9), 8)))
        return house

    def test_at_the_very_time(self):
        house = self.house()
        before = house_state(house)
        self.assertEqual(house.lapse(8), ())
        self.assertEqual(house_state(house), before)
        self.assertEqual(house.lapse(9), ((1, 7), (1, 9), (2, 5)))
        self.assertEqual(house.hands(), ((0, 0), None, None, None))
        self.assertEqual(house.things(), (((0, 0), "thing", (None, None)), ((0, 1), "thing", (None,)),
                                          ((0, 2), "mark", (None,))))
        self.assertEqual(house.still(), ((0, 1),))
        self.assertEqual(asks_told(house), [None, None, ("value", (1, 9))])

    def test_just_the_names_that_lapse(self):
        house = self.house()
        house.hear(1, ("lent", (1, 7), 12))
        house.lapse(9)
        self.assertEqual(house.hands(), ((0, 0), None, (1, 7), None))
        self.assertEqual(fields_of(house, 0), ("thing", (None, (1, 7))))
        self.assertEqual(house.still(), ((1, 7), (0, 1)))

    def test_a_waiting_tell_goes_on_of_nothing(self):
        house = self.house()
        house.lapse(9)
        house.hear(2, ("answer", 0, "mark", ((1, 3), 20)))
        self.assertEqual(house.mail.unowned(1)[-1], ("tell", 0, ((1, 3), 20), 0, None))
        house.hear(1, ("answer", 0, "done", None))
        self.assertEqual(asks_told(house)[0], ("done",))

    def test_the_next_lease_is_of_the_new_time(self):
        house = house_with("leases", 1)
        house.lapse(5)
        house.do(("send", 0, 1, 0))
        self.assertEqual(house.mail.unowned(1), [("hand", 0, ((0, 0), 13))])

    def test_by_lists_and_weights_nothing_lapses(self):
        for way in ("lists", "weights"):
            house = house_with(way, 1)
            to_hand(house, 1, 1, 7)
            house.do(("send", 0, 1, 0))
            before = house_state(house)
            self.assertEqual(house.lapse(99), ())
            self.assertEqual(house_state(house), before)
            to_hand(house, 2, 1, 8)
            self.assertEqual(house.hands()[2], (1, 8))


class CopiedTest(unittest.TestCase):
    def house(self, way):
        house = house_with(way, 2, 1)
        to_hand(house, 2, 1, 7)
        house.do(("send", 0, 1, 0))
        house.do(("ask", 2, 0, 3))
        house.do(("tell", 2, 0, 0))
        house.do(("move", 1, 2))
        house.do(("picture",))
        house.take(("letter", 1, 0, 0, ("hand", 1, pointer(way, 1, 3))))
        house.take(("letter", 1, 0, 2, ("hand", 1, None)))
        return house

    def go_on(self, house):
        way = house.way
        house.do(("make", 3, 1))
        house.do(("put", 0, 1, 3))
        house.do(("put", 0, 0, 2))
        house.do(("drop", 2))
        house.take(("letter", 1, 0, 1, ("picture", 0, 0)))
        house.take(("letter", 2, 0, 0, ("hand", 1, pointer(way, 2, 2))))
        house.take(("letter", 2, 0, 1, ("picture", 0, 0)))
        house.take(("letter", 2, 0, 2, ("part", 0, 0, ((None,) * 4, ()), (), 1)))
        house.take(("letter", 1, 0, 3, ("part", 0, 0, ((None,) * 4, ()), (), 1)))
        house.take(("letter", 2, 0, 3, ("answer", 2, "value", pointer(way, 2, 3))))
        house.take(("letter", 1, 0, 4, ("answer", 1, "done", None)))
        house.take(("letter", 1, 0, 5, ("answer", 0, "none", None)))
        house.take(("owned", 1, 0, 1))
        house.do(("picture",))
        house.do(("free", 0))
        house.do(("sweep",))
        house.lapse(9)

    def test_each_goes_its_own_way(self):
        for way in WAYS:
            expected = self.house(way)
            before = house_state(expected)
            self.go_on(expected)
            after = house_state(expected)
            for ways in ((0, 1), (1, 0)):
                house = self.house(way)
                pair = [house, house.copied()]
                here, there = [pair[place] for place in ways]
                self.assertIsInstance(there, House)
                self.assertEqual((here.number, here.many, here.way), (there.number, there.many, there.way))
                self.go_on(here)
                self.assertEqual(house_state(there), before)
                self.assertEqual(house_state(here), after)
                # All of it was copied: the other one goes the same way now.
                self.go_on(there)
                self.assertEqual(house_state(there), after)

    def test_tells_and_asks_of_the_copy(self):
        for way in WAYS:
            house = self.house(way)
            other = house.copied()
            house.hear(1, ("answer", 0, "mark", pointer(way, 2, 8)))
            self.assertEqual(other.hands()[2], (1, 7))
            other.hear(1, ("answer", 0, "mark", pointer(way, 2, 9)))
            self.assertEqual((house.hands()[2], other.hands()[2]), ((2, 8), (2, 9)))
            house.hear(2, ("answer", 0, "mark", pointer(way, 1, 1)))
            self.assertEqual((house.hands()[2], other.hands()[2]), ((1, 1), (2, 9)))

    def test_parts_that_came_of_a_picture(self):
        for way in WAYS:
            house = House(0, 3, way)
            house.do(("picture",))
            house.hear(1, ("picture", 0, 0))
            house.hear(1, ("part", 0, 0, ((None,) * 4, ()), (), 7))
            other = house.copied()
            for each, count in ((other, 5), (house, 6)):
                each.hear(2, ("picture", 0, 0))
                each.hear(2, ("part", 0, 0, ((None,) * 4, ()), (), count))
            self.assertEqual((house.taken()[0][1], other.taken()[0][1]), ((0, 7, 6), (0, 7, 5)))

    def test_taken_is_built_anew(self):
        house = house_with("lists", many=1)
        house.do(("picture",))
        house.taken().append("x")
        self.assertEqual(len(house.taken()), 1)


class FreeTest(unittest.TestCase):
    def test_one_house(self):
        for way in WAYS:
            house = house_with(way, 1, 1, 1, many=1)
            house.do(("put", 0, 0, 1))
            house.do(("put", 1, 0, 0))
            house.do(("put", 2, 0, 0))
            for hand in (0, 1):
                house.do(("drop", hand))
            self.assertEqual(house.do(("picture",)), ("picture", 0))
            self.assertEqual(house.do(("free", 0)), ("freed", ()))
            house.do(("drop", 2))
            self.assertEqual(house.do(("free", 0)), ("freed", ()))
            self.assertEqual(house.do(("picture",)), ("picture", 1))
            self.assertEqual(house.do(("free", 1)), ("freed", ((0, 0), (0, 1), (0, 2))))
            self.assertEqual(house.things(), tuple(((0, number), "thing", (None,)) for number in range(3)))
            self.assertEqual(house.do(("sweep",)), ("swept", ((0, 0), (0, 1), (0, 2))))
            self.assertEqual(house.do(("free", 1)), ("freed", ((0, 0), (0, 1), (0, 2))))
            self.assertEqual(house.things(), ())

    def test_no_such_picture(self):
        for many in (1, 3):
            house = house_with("lists", 1, many=many)
            for number in (0, 1, 10 ** 5000):
                before = house_state(house)
                with self.assertRaises(NoThing):
                    house.do(("free", number))
                self.assertEqual(house_state(house), before)
        # This one isn't complete.
        house.do(("picture",))
        with self.assertRaises(NoThing):
            house.do(("free", 0))
        house.hear(1, ("picture", 0, 0))
        house.hear(2, ("picture", 0, 0))
        house.hear(1, ("part", 0, 0, ((None,) * 4, ()), (), 0))
        with self.assertRaises(NoThing):
            house.do(("free", 0))
        house.hear(2, ("part", 0, 0, ((None,) * 4, ()), (), 0))
        self.assertEqual(house.do(("free", 0)), ("freed", ()))

    def test_letters_go_to_the_homes(self):
        for way in WAYS:
            house = house_with(way, 1, 1, many=4)
            house.do(("put", 1, 0, 1))
            house.do(("drop", 1))
            house.do(("picture",))
            for other, things in ((1, ((1, 0), (1, 5), (1, 6))), (2, ((2, 3),)), (3, ((3, 2), (3, 4)))):
                house.hear(other, ("picture", 0, 0))
                rows = tuple((name, "thing", (name,)) for name in things)
                hands = ((1, 5) if other == 2 else None, (2, 3), None, None)
                house.hear(other, ("part", 0, 0, (hands, rows), (), 0))
            before = [len(house.mail.unowned(to)) for to in (1, 2, 3)]
            self.assertEqual(house.do(("free", 0)), ("freed", ((0, 1), (1, 0), (1, 6), (3, 2), (3, 4))))
            after = [house.mail.unowned(to)[many:] for to, many in zip((1, 2, 3), before)]
            self.assertEqual(after, [[("free", ((1, 0), (1, 6)))], [], [("free", ((3, 2), (3, 4)))]])
            self.assertEqual(house.things(), (((0, 0), "thing", (None,)), ((0, 1), "thing", (None,))))

    def test_freed_as_it_is_heard(self):
        for way in WAYS:
            house = house_with(way, 2, 1, 1)
            house.do(("put", 0, 0, 1))
            house.do(("put", 0, 1, 0))
            house.do(("put", 1, 0, 1))
            house.do(("move", 2, 1))
            house.hear(1, ("answer", 0, "value", pointer(way, 1, 9)))
            house.do(("put", 1, 0, 2))
            house.hear(2, ("free", ((0, 0), (0, 2), (0, 50))))
            self.assertEqual(house.things(), (
                ((0, 0), "thing", (None, None)), ((0, 1), "thing", ((1, 9),)), ((0, 2), "mark", (None,))))
            # Hands have them still: nothing but the fields is changed.
            self.assertEqual(house.hands(), ((0, 0), (0, 1), (1, 9), None))

    def test_a_picture_with_a_name_that_has_lapsed(self):
        # When a part was noted, its hand still had a name that was taken up ahead of the other part.
        house = house_with("leases", 1, many=2)
        house.do(("make", 1, 1))
        house.do(("drop", 1))
        house.do(("picture",))
        house.hear(1, ("picture", 0, 0))
        rows = (((1, 3), "thing", ((0, 9),)), ((1, 4), "thing", ((0, 0),)))
        house.hear(1, ("part", 0, 0, (((0, 8), (1, 3), None, None), rows), ((0, 1, ((0, 7),)),), 0))
        self.assertEqual(house.do(("free", 0)), ("freed", ((0, 1), (1, 4))))
