import unittest

from heldafar.house import House
from heldafar.replay import taken_holds
from heldafar.world import World, run
from tests.helper import NO_HANDS, WAYS, house_with, pointer, to_hand

EMPTY = (NO_HANDS, ())


class OneHouseTest(unittest.TestCase):
    def test_complete_at_once(self):
        for way in WAYS:
            house = house_with(way, 1, many=1)
            self.assertEqual(house.taken(), [])
            self.assertEqual(house.do(("picture",)), ("picture", 0))
            first = (0, (1,), (((((0, 0), None, None, None), (((0, 0), "thing", (None,)),)),), ()))
            self.assertEqual(house.taken(), [first])
            house.do(("put", 0, 0, 0))
            house.do(("drop", 0))
            self.assertEqual(house.do(("picture",)), ("picture", 1))
            second = (1, (4,), (((NO_HANDS, (((0, 0), "thing", ((0, 0),)),)),), ()))
            self.assertEqual(house.taken(), [first, second])
            self.assertEqual(house.events()[1], ("step", ("picture",)))


class AskingHouseTest(unittest.TestCase):
    def test_it_tells_all_others(self):
        for way in WAYS:
            house = House(1, 4, way)
            self.assertEqual(house.do(("picture",)), ("picture", 0))
            self.assertEqual(house.do(("picture",)), ("picture", 1))
            for to in (0, 2, 3):
                self.assertEqual(house.mail.unowned(to), [("picture", 1, 0), ("picture", 1, 1)])
            self.assertEqual(house.taken(), [])

    def test_it_notes_letters_till_each_word(self):
        for way in WAYS:
            house = house_with(way, 1)
            to_hand(house, 3, 2, 1)
            house.do(("picture",))
            noted = (((0, 0), None, None, (2, 1)), (((0, 0), "thing", (None,)),))
            house.hear(2, ("hand", 0, pointer(way, 2, 3)))
            house.hear(1, ("hand", 0, pointer(way, 1, 2)))
            house.hear(1, ("hand", 0, None))
            house.hear(1, ("ask", 0, pointer(way, 0, 0), 0))
            house.hear(1, ("picture", 0, 0))
            house.hear(1, ("hand", 0, pointer(way, 1, 4)))
            house.hear(1, ("part", 0, 0, EMPTY, ((0, 1, ((1, 9),)), (2, 1, ((2, 8),))), 7))
            house.hear(2, ("build", 0, (pointer(way, 2, 5), None, pointer(way, 1, 5))))
            self.assertEqual(house.taken(), [])
            house.hear(2, ("picture", 0, 0))
            house.hear(2, ("hand", 0, pointer(way, 2, 6)))
            self.assertEqual(house.taken(), [])
            house.hear(2, ("part", 0, 0, EMPTY, ((1, 2, ((0, 0),)),), 5))
            letters = ((1, 0, ((1, 2),)), (1, 0, ((0, 0),)), (2, 0, ((2, 3),)), (2, 0, ((2, 5), (1, 5))),
                       (0, 1, ((1, 9),)), (2, 1, ((2, 8),)), (1, 2, ((0, 0),)))
            self.assertEqual(house.taken(), [(0, (1, 7, 5), ((noted, EMPTY, EMPTY), letters))])
            # Complete, it stays as it is.
            house.hear(2, ("hand", 0, pointer(way, 2, 7)))
            self.assertEqual(house.taken(), [(0, (1, 7, 5), ((noted, EMPTY, EMPTY), letters))])

    def test_parts_ahead_of_the_last_word(self):
        house = House(0, 3, "lists")
        house.do(("picture",))
        house.hear(1, ("picture", 0, 0))
        house.hear(1, ("part", 0, 0, EMPTY, (), 7))
        # House 2 heard of it and told house 1, whose part it is; its own word comes last.
        self.assertEqual(house.taken(), [])
        house.hear(2, ("picture", 0, 0))
        self.assertEqual(house.taken(), [])
        house.hear(2, ("part", 0, 0, EMPTY, (), 5))
        self.assertEqual(house.taken(), [(0, (0, 7, 5), ((EMPTY, EMPTY, EMPTY), ()))])

    def test_several_side_by_side(self):
        for way in WAYS:
            house = House(0, 2, way)
            house.do(("picture",))
            house.hear(1, ("hand", 0, pointer(way, 1, 2)))
            house.do(("picture",))
            house.hear(1, ("picture", 0, 1))
            house.hear(1, ("hand", 1, pointer(way, 1, 3)))
            house.hear(1, ("part", 0, 1, EMPTY, (), 4))
            held = (((1, 2), None, None, None), ())
            self.assertEqual(house.taken(), [(1, (1, 4), ((held, EMPTY), ()))])
            house.hear(1, ("picture", 0, 0))
            house.hear(1, ("part", 0, 0, EMPTY, (), 6))
            self.assertEqual(house.taken(), [
                (0, (0, 6), ((EMPTY, EMPTY), ((1, 0, ((1, 2),)), (1, 0, ((1, 3),))))),
                (1, (1, 4), ((held, EMPTY), ()))])

    def test_names_that_have_lapsed_are_not_noted(self):
        house = House(0, 2, "leases")
        house.do(("picture",))
        house.lapse(5)
        house.hear(1, ("build", 0, (((1, 1), 4), ((1, 2), 5))))
        house.hear(1, ("hand", 0, ((1, 3), 4)))
        house.hear(1, ("picture", 0, 0))
        house.hear(1, ("part", 0, 0, EMPTY, (), 4))
        self.assertEqual(house.taken()[0][2][1], ((1, 0, ((1, 2),)),))

    def test_what_is_still_to_be_told_is_noted(self):
        house = house_with("lists", 1, many=2)
        to_hand(house, 1, 1, 2)
        house.do(("tell", 1, 0, 0))
        house.do(("picture",))
        house.hear(1, ("picture", 0, 0))
        house.hear(1, ("part", 0, 0, EMPTY, (), 4))
        self.assertEqual(house.taken()[0][2][0][0][0], ((0, 0), (1, 2), None, None, (0, 0)))


class OtherHouseTest(unittest.TestCase):
    def pictured(self, house, to):
        return [body for body in house.mail.unowned(to) if body[0] in ("picture", "part")]

    def test_with_two_houses_its_part_goes_at_once(self):
        for way in WAYS:
            house = house_with(way, 1, number=1, many=2)
            house.take(("letter", 0, 1, 0, ("picture", 0, 3)))
            part = (((1, 0), None, None, None), (((1, 0), "thing", (None,)),))
            self.assertEqual(house.mail.unowned(0), [("picture", 0, 3), ("part", 0, 3, part, (), 1)])
            self.assertEqual(house.events()[-1], ("heard", 0, 0))
            self.assertEqual(house.taken(), [])

    def test_it_notes_its_part_once(self):
        for way in WAYS:
            house = house_with(way, 1, number=1)
            house.hear(2, ("hand", 3, pointer(way, 2, 1)))
            house.hear(0, ("picture", 0, 0))
            part = (((1, 0), None, None, (2, 1)), (((1, 0), "thing", (None,)),))
            for to in (0, 2):
                self.assertEqual(self.pictured(house, to), [("picture", 0, 0)])
            house.do(("drop", 0))
            house.hear(0, ("hand", 0, pointer(way, 0, 1)))
            house.hear(2, ("hand", 1, pointer(way, 2, 2)))
            house.hear(2, ("picture", 0, 0))
            self.assertEqual(self.pictured(house, 2), [("picture", 0, 0)])
            self.assertEqual(self.pictured(house, 0), [
                ("picture", 0, 0), ("part", 0, 0, part, ((2, 1, ((2, 2),)),), 1)])
            house.hear(2, ("hand", 1, pointer(way, 2, 3)))
            house.hear(2, ("picture", 0, 0))
            house.hear(0, ("picture", 0, 0))
            self.assertEqual(len(self.pictured(house, 0)), 2)

    def test_the_word_may_come_from_whomever(self):
        house = House(1, 3, "lists")
        house.hear(2, ("picture", 0, 0))
        house.hear(0, ("hand", 1, pointer("lists", 0, 2)))
        house.hear(2, ("hand", 1, pointer("lists", 2, 2)))
        house.hear(0, ("picture", 0, 0))
        self.assertEqual(self.pictured(house, 0), [
            ("picture", 0, 0), ("part", 0, 0, EMPTY, ((0, 1, ((0, 2),)),), 0)])

    def test_numbers_and_houses_in_any_order(self):
        house = House(1, 3, "lists")
        for asker, number in ((0, 5), (2, 5), (0, 2), (2, 0)):
            house.hear(0, ("picture", asker, number))
            house.hear(2, ("picture", asker, number))
        self.assertEqual(self.pictured(house, 0), [
            ("picture", 0, 5), ("part", 0, 5, EMPTY, (), 0), ("picture", 2, 5), ("picture", 0, 2),
            ("part", 0, 2, EMPTY, (), 0), ("picture", 2, 0)])
        self.assertEqual(self.pictured(house, 2), [
            ("picture", 0, 5), ("picture", 2, 5), ("part", 2, 5, EMPTY, (), 0), ("picture", 0, 2),
            ("picture", 2, 0), ("part", 2, 0, EMPTY, (), 0)])
        self.assertEqual(house.do(("picture",)), ("picture", 0))

    def test_letters_by_sender_and_number(self):
        house = House(3, 4, "lists")
        house.hear(0, ("picture", 0, 0))
        for sender, number in ((2, 1), (1, 1), (2, 2), (1, 2)):
            house.hear(sender, ("hand", 0, pointer("lists", sender, number)))
        house.hear(2, ("picture", 0, 0))
        house.hear(1, ("picture", 0, 0))
        letters = tuple((sender, 3, ((sender, number),)) for sender in (1, 2) for number in (1, 2))
        self.assertEqual(self.pictured(house, 0)[1], ("part", 0, 0, EMPTY, letters, 0))

    def test_counts_of_events(self):
        house = house_with("lists", 1, number=1, many=2)
        house.take(("letter", 0, 1, 1, ("picture", 0, 0)))
        house.take(("letter", 0, 1, 2, ("picture", 0, 1)))
        self.assertEqual(house.take(("letter", 0, 1, 0, ("hand", 0, None))), 3)
        counts = [body[5] for body in house.mail.unowned(0) if body[0] == "part"]
        self.assertEqual(counts, [2, 3])
        self.assertEqual(len(house.events()), 4)


class WorldTest(unittest.TestCase):
    def test_a_letter_that_is_under_way(self):
        # House 1 hears the word ahead of the letter of house 2, which house 2 sent ahead of its part.
        for way in WAYS:
            world = run(3, way, [
                ("at", 2, ("make", 0, 0)), ("at", 2, ("send", 0, 1, 3)), ("at", 2, ("drop", 0)),
                ("at", 0, ("picture",)), ("save", 0), ("come", 0), ("round",), ("round",), ("round",)])
            number, counts, picture = world.houses[0].taken()[0]
            self.assertEqual((number, counts), (0, (0, 0, 3)))
            self.assertEqual(picture, ((EMPTY, EMPTY, (NO_HANDS, (((2, 0), "thing", ()),))), ((2, 1, ((2, 0),)),)))
            if way != "leases":
                self.assertIs(taken_holds(3, way, world.histories(), counts, picture), True)

    def test_histories(self):
        for way in WAYS:
            world = World(2, way)
            self.assertEqual(world.histories(), ((), ()))
            world.do(("at", 0, ("make", 0, 1)))
            world.do(("at", 0, ("send", 0, 1, 1)))
            world.do(("save", 0))
            world.do(("come", 0))
            told = ((("step", ("make", 0, 1)), ("step", ("send", 0, 1, 1))), (("heard", 0, 0),))
            self.assertEqual(world.histories(), told)
            world.do(("at", 0, ("drop", 0)))
            self.assertEqual(world.histories(), (told[0] + (("step", ("drop", 0)),), told[1]))
            world.do(("fall", 0))
            world.do(("fall", 1))
            self.assertEqual(world.histories(), (told[0], ()))
            world.do(("round",))
            # By leases house 1 asks for a later one.
            renewed = (("heard", 1, 0),) if way == "leases" else ()
            self.assertEqual(world.histories(), (
                told[0] + (("step", ("sweep",)),) + renewed, (("heard", 0, 0), ("step", ("sweep",)))))

    def test_pictures_fall_with_the_house(self):
        world = run(1, "lists", [("at", 0, ("picture",))])
        self.assertEqual(len(world.houses[0].taken()), 1)
        world.do(("fall", 0))
        self.assertEqual(world.houses[0].taken(), [])
        self.assertEqual(world.do(("at", 0, ("picture",))), ("picture", 0))
        world.do(("save", 0))
        world.do(("fall", 0))
        self.assertEqual(len(world.houses[0].taken()), 1)
        self.assertEqual(world.do(("at", 0, ("picture",))), ("picture", 1))
