import unittest
from unittest import mock

from heldafar.errors import BadStep, FarError, IsHere, NoField, NoPacket, NotHere, NoThing, TooMany
from heldafar.house import House
from heldafar.world import World, run
from tests.helper import NO_HANDS, NO_NUMBERS, WAYS, drawn_steps, house_state, steps_of_round, world_state

SENT = [("at", 0, ("make", 0, 1)), ("at", 0, ("send", 0, 1, 2))]


class WorldTest(unittest.TestCase):
    def refuses(self, world, step, error):
        """The step is refused so, nothing is changed, and it is told so."""
        before, told = world_state(world), world.told()
        with self.assertRaises(error) as caught:
            world.do(step)
        self.assertIs(caught.exception.__class__, error, step)
        self.assertEqual(world_state(world), before, step)
        self.assertEqual(world.told(), told + [("refused", error.__name__)])


class FirstTest(WorldTest):
    def test_new_worlds(self):
        for way in WAYS:
            for many in range(1, 9):
                world = World(many, way)
                self.assertIsInstance(world.houses, list)
                self.assertEqual([(house.number, house.many, house.way) for house in world.houses],
                                 [(number, many, way) for number in range(many)])
                self.assertTrue(all(isinstance(house, House) for house in world.houses))
                self.assertEqual(world.told(), [])
                self.assertEqual(world.histories(), ((),) * many)
                self.assertEqual(world.picture(), (((NO_HANDS, ()),) * many, ()))
                for number in range(many):
                    self.assertEqual(world.do(("fall", number)), ("done",))
                self.assertEqual(world_state(world), world_state(World(many, way)))

    def test_what_is_no_world(self):
        for many in (0, 9, -1, 10 ** 5000, mock.ANY) + NO_NUMBERS:
            with self.assertRaises(BadStep):
                World(many, "lists")
            with self.assertRaises(BadStep):
                run(many, "lists", [])
        for way in ("", "list", "Lists", None, True, 0, b"lists", ("lists",), ["lists"], {}, mock.ANY, "lists "):
            with self.assertRaises(BadStep):
                World(2, way)
            with self.assertRaises(BadStep):
                run(2, way, [])

    def test_houses_are_those_of_the_world(self):
        world = World(2, "lists")
        self.assertEqual(world.houses[0].do(("make", 0, 1)), ("made", (0, 0)))
        world.houses[0].do(("send", 0, 1, 2))
        self.assertEqual(world.told(), [])
        self.assertEqual(world.histories()[0], tuple(("step", step) for house, step in (
            (0, ("make", 0, 1)), (0, ("send", 0, 1, 2)))))
        self.assertEqual(world.picture()[1], ((0, 1, ((0, 0),)),))
        world.do(("save", 0))
        world.do(("come", 0))
        self.assertEqual(world.houses[1].hands(), (None, None, (0, 0), None))


class BadStepTest(WorldTest):
    def test_what_is_no_step(self):
        world = run(2, "lists", SENT + [("save", 0)])
        for step in (None, True, 0, "", "tick", b"tick", (), [], {}, ["tick"], ("tock",), ("Tick",), (b"tick",),
                     (None,), ([],), (mock.ANY,), mock.ANY, ("tick", 0), ("round", 0), ("save",), ("save", 0, 0),
                     ("fall",), ("come",), ("come", 0, 0), ("double",), ("lose",), ("at",), ("at", 0), ("at", 0, 0, 0),
                     ("at", 0, None), ("at", 0, ()), ("at", 0, ("tick",)), ("at", 0, ["sweep"]), ("sweep",),
                     ("make", 0, 1), ("at", 0, ("at", 0, ("sweep",))), (mock.ANY, 0), (mock.ANY, 0, ("sweep",)),
                     ("in", 0, ("sweep",)), ("", 0, ("sweep",)), ("at ", 0, ("sweep",)),
                     ("at", 0, ("make", 4, 0)), ("at", 0, ("send", 0, 0, 0))):
            self.refuses(world, step, BadStep)

    def test_houses_that_are_not_there(self):
        world = run(2, "lists", SENT + [("save", 0)])
        for number in (2, 3, -1, 10 ** 5000, mock.ANY) + NO_NUMBERS:
            for step in (("save", number), ("fall", number), ("at", number, ("sweep",)), ("at", number, "x")):
                self.refuses(world, step, BadStep)

    def test_places(self):
        world = run(2, "lists", SENT + [("save", 0)])
        self.assertEqual(len(world.net.under_way()), 2)
        for word in ("come", "double", "lose"):
            for place in NO_NUMBERS + (mock.ANY,):
                self.refuses(world, (word, place), BadStep)
            for place in (2, 3, -1, -2, 10 ** 5000, -10 ** 5000):
                self.refuses(world, (word, place), NoPacket)

    def test_what_houses_refuse(self):
        world = run(2, "lists", SENT + [("save", 0), ("come", 0)])
        for step, error in (
                (("at", 0, ("put", 3, 0, 0)), NoThing), (("at", 1, ("put", 2, 0, 0)), NotHere),
                (("at", 0, ("ask", 0, 0, 0)), IsHere), (("at", 0, ("put", 0, 1, 0)), NoField),
                (("at", 0, ("free", 0)), NoThing)):
            self.refuses(world, step, error)
        for again in range(39):
            world.do(("at", 0, ("make", 1, 0)))
        self.refuses(world, ("at", 0, ("make", 1, 0)), TooMany)

    def test_what_a_house_refuses_to_take_stays_under_way(self):
        world = run(2, "lists", SENT)
        # House 1 hears the letter by hand; house 0 falls and never wrote it.
        world.houses[1].take(world.houses[0].mail.packets()[0])
        world.do(("save", 1))
        world.do(("fall", 0))
        self.refuses(world, ("come", 0), NoPacket)
        self.refuses(world, ("round",), NoPacket)


class MailTest(WorldTest):
    def test_at_tells_what_the_house_tells(self):
        for way in WAYS:
            world = World(2, way)
            self.assertEqual(world.do(("at", 1, ("make", 2, 3))), ("made", (1, 0)))
            self.assertEqual(world.do(("at", 1, ("sweep",))), ("swept", ()))
            self.assertEqual(world.do(("at", 1, ("drop", 2))), ("done",))
            self.assertEqual(world.do(("at", 1, ("sweep",))), ("swept", ((1, 0),)))
            self.assertEqual(world.told(), [("made", (1, 0)), ("swept", ()), ("done",), ("swept", ((1, 0),))])

    def test_save_puts_packets(self):
        for way in WAYS:
            world = run(3, way, SENT)
            self.assertEqual(world.net.under_way(), [])
            self.assertEqual(world.do(("save", 0)), ("done",))
            packets = world.houses[0].mail.packets()
            self.assertEqual(len(packets), 3)
            self.assertEqual(world.net.under_way(), packets)
            world.do(("save", 2))
            self.assertEqual(world.net.under_way(), packets + [("owned", 2, 0, 0), ("owned", 2, 1, 0)])
            world.do(("save", 0))
            self.assertEqual(world.net.under_way()[5:], packets)

    def test_come(self):
        for way in WAYS:
            world = run(2, way, SENT + [("at", 0, ("send", 0, 1, 3)), ("save", 0)])
            self.assertEqual(world.do(("come", 1)), ("came", 0))
            self.assertEqual(world.houses[1].hands(), NO_HANDS)
            self.assertEqual(world.do(("come", 0)), ("came", 2))
            self.assertEqual(world.houses[1].hands(), (None, None, (0, 0), (0, 0)))
            self.assertEqual(world.do(("come", 0)), ("came", 0))
            self.assertEqual(world.net.under_way(), [])
            self.refuses(world, ("come", 0), NoPacket)

    def test_double_and_lose(self):
        for way in WAYS:
            world = run(2, way, SENT + [("save", 0)])
            first, second = world.net.under_way()
            self.assertEqual(world.do(("double", 0)), ("done",))
            self.assertEqual(world.net.under_way(), [first, second, first])
            self.assertEqual(world.do(("come", 0)), ("came", 1))
            self.assertEqual(world.do(("lose", 0)), ("done",))
            self.assertEqual(world.net.under_way(), [first])
            self.assertEqual(world.do(("come", 0)), ("came", 0))
            self.assertEqual(world.houses[1].events(), (("heard", 0, 0),))

    def test_a_lost_letter_comes_with_the_next_save(self):
        for way in WAYS:
            world = run(2, way, SENT + [("save", 0), ("lose", 0), ("come", 0)])
            self.assertEqual(world.houses[1].hands(), NO_HANDS)
            world.do(("save", 0))
            self.assertEqual(world.do(("come", 0)), ("came", 1))

    def test_letters_are_kept_till_they_are_owned(self):
        world = run(2, "lists", SENT + [("save", 0), ("come", 0), ("save", 0)])
        self.assertEqual(len(world.houses[0].mail.packets()), 2)
        world.do(("save", 1))
        world.do(("come", len(world.net.under_way()) - 1))
        self.assertEqual(world.houses[0].mail.packets(), [("owned", 0, 1, 0)])


class FallTest(WorldTest):
    def test_it_is_as_it_was_written_down_last(self):
        for way in WAYS:
            world = run(2, way, SENT)
            expected = house_state(world.houses[0])
            world.do(("save", 0))
            world.do(("at", 0, ("make", 1, 2)))
            world.do(("at", 0, ("send", 1, 1, 0)))
            self.assertEqual(world.do(("fall", 0)), ("done",))
            self.assertEqual(house_state(world.houses[0]), expected)
            self.assertEqual(world.do(("at", 0, ("make", 1, 0))), ("made", (0, 1)))
            world.do(("fall", 0))
            self.assertEqual(house_state(world.houses[0]), expected)

    def test_what_was_never_written_down(self):
        for way in WAYS:
            world = run(2, way, SENT + [("fall", 0)])
            self.assertEqual(world_state(world), world_state(World(2, way)))

    def test_a_letter_comes_again(self):
        for way in WAYS:
            world = run(2, way, SENT + [("save", 0), ("double", 0), ("come", 0), ("fall", 1)])
            self.assertEqual(world.houses[1].hands(), NO_HANDS)
            self.assertEqual(world.do(("come", 1)), ("came", 1))
            self.assertEqual(world.houses[1].hands(), (None, None, (0, 0), None))

    def test_asks_fall_too(self):
        for way in WAYS:
            world = run(2, way, SENT + [("round",), ("at", 1, ("ask", 2, 0, 0)), ("save", 1)])
            self.assertIsNone(world.houses[1].told(0))
            for again in range(2):
                while world.net.under_way():
                    world.do(("come", 0))
                world.do(("save", 0))
                while world.net.under_way():
                    world.do(("come", 0))
                self.assertEqual(world.houses[1].told(0), ("value", None))
                world.do(("fall", 1))
                self.assertIsNone(world.houses[1].told(0))
                world.do(("save", 1))

    def test_one_house_falls(self):
        world = run(2, "lists", SENT + [("save", 0), ("at", 1, ("make", 0, 0)), ("fall", 0)])
        self.assertEqual(world.houses[1].hands(), ((1, 0), None, None, None))
        self.assertEqual(len(world.net.under_way()), 2)


class TickTest(WorldTest):
    def test_leases_lapse_everywhere(self):
        world = run(2, "leases", SENT + [("save", 0), ("come", 0), ("save", 1)])
        for now in range(8):
            self.assertEqual(world.do(("tick",)), ("done",))
        self.assertEqual(world.houses[1].hands(), (None, None, (0, 0), None))
        self.assertIs(world.houses[0].part.is_held((0, 0)), True)
        world.do(("tick",))
        self.assertEqual(world.houses[1].hands(), NO_HANDS)
        self.assertIs(world.houses[0].part.is_held((0, 0)), False)
        # What was written down has lapsed, too.
        world.do(("fall", 1))
        self.assertEqual(world.houses[1].hands(), NO_HANDS)
        world.do(("fall", 0))
        self.assertIs(world.houses[0].part.is_held((0, 0)), False)
        self.assertEqual(world.houses[0].part.lease((0, 0)), 8)

    def test_the_time_goes_on_through_falls(self):
        world = run(2, "leases", [("at", 0, ("make", 0, 0)), ("save", 0)] + [("tick",)] * 3 + [("fall", 0)])
        world.do(("at", 0, ("send", 0, 1, 0)))
        self.assertEqual(world.houses[0].mail.unowned(1), [("hand", 0, ((0, 0), 11))])

    def test_a_letter_that_is_late(self):
        world = run(2, "leases", SENT + [("save", 0)] + [("tick",)] * 8)
        self.assertEqual(world.picture()[1], ((0, 1, ((0, 0),)),))
        world.do(("tick",))
        self.assertEqual(world.picture()[1], ())
        self.assertEqual(world.do(("come", 0)), ("came", 1))
        self.assertEqual(world.houses[1].hands(), NO_HANDS)

    def test_by_other_ways_nothing_lapses(self):
        for way in ("lists", "weights"):
            world = run(2, way, SENT + [("save", 0), ("come", 0)] + [("tick",)] * 20)
            self.assertEqual(world.houses[1].hands(), (None, None, (0, 0), None))


class RoundTest(WorldTest):
    def test_it_tells_done(self):
        for way in WAYS:
            for many in (1, 2, 8):
                world = World(many, way)
                self.assertEqual(world.do(("round",)), ("done",))
                self.assertEqual(world.told(), [("done",)])
                self.assertEqual(world.net.under_way(), [])
                self.assertEqual(world.histories(), ((("step", ("sweep",)),),) * many)

    def test_letters_come_and_are_answered(self):
        for way in WAYS:
            world = run(2, way, SENT + [("round",)])
            self.assertEqual(world.houses[1].hands(), (None, None, (0, 0), None))
            world.do(("at", 1, ("ask", 2, 0, 0)))
            # The ask comes with the first packets, its answer with those behind the sweep.
            world.do(("round",))
            self.assertEqual(world.houses[1].told(0), ("value", None))

    def test_its_steps_one_by_one(self):
        for way in WAYS:
            for seed in range(6):
                steps = drawn_steps(seed, way, 120)
                here, there = (run(3, way, steps) for world in range(2))
                here.do(("round",))
                for step in steps_of_round(there):
                    there.do(step)
                self.assertEqual(world_state(here), world_state(there))

    def test_all_is_written_down(self):
        for way in WAYS:
            world = run(2, way, SENT + [("at", 1, ("make", 0, 0)), ("round",)])
            for number in range(2):
                before = world.houses[number].hands(), world.houses[number].things()
                world.do(("fall", number))
                self.assertEqual((world.houses[number].hands(), world.houses[number].things()), before)

    def test_what_is_dropped_is_taken_up(self):
        for way in ("lists", "weights"):
            world = run(2, way, SENT + [("round",), ("at", 0, ("drop", 0)), ("round",)])
            self.assertEqual(len(world.houses[0].things()), 1)
            world.do(("at", 1, ("drop", 2)))
            world.do(("round",))
            self.assertEqual(len(world.houses[0].things()), 1)
            world.do(("round",))
            self.assertEqual(world.houses[0].things(), ())

    def test_it_ticks(self):
        world = run(2, "leases", [("round",)] * 3 + SENT)
        self.assertEqual(world.houses[0].mail.unowned(1), [("hand", 2, ((0, 0), 11))])

    def test_leases_are_renewed(self):
        world = run(2, "leases", SENT + [("at", 0, ("drop", 0))] + [("round",)] * 50)
        self.assertEqual(world.houses[1].hands(), (None, None, (0, 0), None))
        self.assertEqual(len(world.houses[0].things()), 1)
        world.do(("at", 1, ("drop", 2)))
        for again in range(12):
            world.do(("round",))
        self.assertEqual(world.houses[0].things(), ())

    def test_packets_that_were_under_way_come_too(self):
        for way in WAYS:
            world = run(2, way, SENT + [("save", 0), ("fall", 0), ("double", 0), ("round",)])
            self.assertEqual(world.houses[1].events()[0], ("heard", 0, 0))
            self.assertEqual(world.net.under_way(), [])


class TooManyTest(WorldTest):
    def crowded(self, way, saves):
        """House 0 has 999 letters for house 1; each save puts a thousand packets."""
        world = World(2, way)
        for again in range(999):
            world.do(("at", 0, ("send", 0, 1, 0)))
        for again in range(saves):
            world.do(("save", 0))
        return world

    def test_save(self):
        for way in WAYS:
            world = self.crowded(way, 20)
            self.assertEqual(len(world.net.under_way()), 20000)
            world.do(("at", 0, ("make", 0, 1)))
            self.refuses(world, ("save", 0), TooMany)
            self.refuses(world, ("save", 1), TooMany)
            self.refuses(world, ("double", 0), TooMany)
            self.refuses(world, ("round",), TooMany)
            world.do(("fall", 0))
            # It wasn't written down.
            self.assertEqual(world.houses[0].hands(), NO_HANDS)
            world.do(("lose", 0))
            self.assertEqual(world.do(("save", 1)), ("done",))

    def test_a_round_with_as_many_as_may_be(self):
        world = self.crowded("lists", 19)
        world.do(("lose", 0))
        self.assertEqual(len(world.net.under_way()), 18999)
        # House 0 can save, and house 1 then too: this one just goes.
        self.assertEqual(world.do(("round",)), ("done",))
        self.assertEqual(world.net.under_way(), [])

    def test_a_round_when_the_second_house_saves(self):
        for way in WAYS:
            world = self.crowded(way, 19)
            for house in (0, 1):
                world.do(("at", house, ("make", 0, 0)))
            self.assertEqual(len(world.net.under_way()), 19000)
            # House 0 can save, and house 1 can't: neither is written down.
            self.refuses(world, ("round",), TooMany)
            self.assertEqual(world.histories()[1], (("step", ("make", 0, 0)),))
            for house in (0, 1):
                world.do(("fall", house))
                self.assertEqual(world.houses[house].hands(), NO_HANDS)

    def test_a_round_when_the_houses_save_behind_their_sweep(self):
        for way in WAYS:
            world = run(2, way, SENT + [("round",), ("at", 0, ("make", 1, 0)), ("at", 0, ("drop", 1))])
            for again in range(10000):
                world.do(("at", 1, ("ask", 2, 0, 3)))
            # Asks and answers together are too many, when all letters were heard and all houses have swept.
            self.refuses(world, ("round",), TooMany)
            self.assertEqual(len(world.houses[0].things()), 2)
            self.assertIsNone(world.houses[1].told(0))
            self.assertEqual(world.net.under_way(), [])
            world.do(("fall", 1))
            self.assertEqual(world.do(("round",)), ("done",))
            self.assertEqual(len(world.houses[0].things()), 1)

    def test_a_round_goes_on_behind_one_that_was_refused(self):
        world = self.crowded("leases", 19)
        houses = world.houses
        self.refuses(world, ("round",), TooMany)
        self.assertIs(world.houses, houses)
        world.do(("lose", 0))
        self.assertEqual(world.do(("round",)), ("done",))
        self.assertEqual(len(world.houses[1].events()), 1000)


class ToldTest(WorldTest):
    def test_refused_steps(self):
        world = World(2, "lists")
        steps = [("at", 0, ("make", 0, 0)), ("at", 0, ("put", 0, 0, 0)), "x", ("come", 0), ("at", 0, ("take", 1, 0, 0)),
                 ("at", 0, ("ask", 0, 0, 0)), ("at", 2, ("sweep",)), ("tick",)]
        for step in steps:
            try:
                world.do(step)
            except FarError:
                pass
        told = [("made", (0, 0)), ("refused", "NoField"), ("refused", "BadStep"), ("refused", "NoPacket"),
                ("refused", "NoThing"), ("refused", "IsHere"), ("refused", "BadStep"), ("done",)]
        self.assertEqual(world.told(), told)
        self.assertEqual(run(2, "lists", steps).told(), told)
        world.told().append("x")
        self.assertEqual(world.told(), told)
        self.assertEqual(world.histories()[0], (("step", ("make", 0, 0)),))

    def test_run(self):
        for way in WAYS:
            steps = SENT + [("save", 0), ("come", 0), ("at", 1, ("put", 2, 0, 0)), ("lose", 5)]
            kept = list(steps)
            world = run(2, way, steps)
            self.assertIsInstance(world, World)
            self.assertEqual(steps, kept)
            self.assertEqual(world.told(), [("made", (0, 0)), ("done",), ("done",), ("came", 1),
                                            ("refused", "NotHere"), ("refused", "NoPacket")])
            self.assertEqual(run(2, way, []).told(), [])


class PictureTest(WorldTest):
    def test_letters_by_to_sender_and_number(self):
        for way in WAYS:
            world = World(3, way)
            for house in (2, 1, 0):
                for hand in range(2):
                    world.do(("at", house, ("make", hand, 0)))
                for to in (2, 1, 0):
                    if to != house:
                        for hand in range(2):
                            world.do(("at", house, ("send", hand, to, 0)))
            self.assertEqual(world.picture()[1], tuple(
                (sender, to, ((sender, number),)) for to in range(3) for sender in range(3) if sender != to
                for number in range(2)))

    def test_each_letter_as_long_as_it_is_not_done(self):
        for way in WAYS:
            world = run(2, way, SENT)
            told = ((0, 1, ((0, 0),)),)
            for step in (("save", 0), ("double", 0), ("lose", 0), ("fall", 0), ("at", 0, ("drop", 0))):
                self.assertEqual(world.picture()[1], told)
                world.do(step)
            self.assertEqual(world.picture()[1], told)
            world.do(("come", 1))
            self.assertEqual(world.picture()[1], ())
            self.assertEqual(world.picture()[0][1], ((None, None, (0, 0), None), ()))
            world.do(("fall", 1))
            self.assertEqual(world.picture()[1], told)

    def test_letters_that_came_early(self):
        for way in WAYS:
            world = run(2, way, [("at", 0, ("make", 0, 0)), ("at", 0, ("make", 1, 0)), ("at", 0, ("send", 0, 1, 0)),
                                 ("at", 0, ("send", 1, 1, 1)), ("save", 0), ("come", 1)])
            self.assertEqual(world.picture()[1], ((0, 1, ((0, 0),)), (0, 1, ((0, 1),))))
            world.do(("come", 0))
            self.assertEqual(world.picture()[1], ())

    def test_owned_letters_are_not_under_way(self):
        world = run(2, "lists", SENT + [("round",), ("at", 0, ("send", 0, 1, 3))])
        self.assertEqual(world.picture()[1], ((0, 1, ((0, 0),)),))
        world.do(("round",))
        self.assertEqual(world.picture()[1], ())

    def test_names_of_each_letter(self):
        for way in WAYS:
            world = run(3, way, SENT + [("save", 0), ("come", 0), ("at", 1, ("make", 0, 2))])
            world.do(("at", 1, ("ask", 2, 0, 3)))
            world.do(("at", 1, ("tell", 2, 0, 0)))
            world.do(("at", 1, ("tell", 2, 0, 3)))
            world.do(("at", 1, ("put", 0, 1, 2)))
            world.do(("at", 1, ("put", 0, 0, 0)))
            world.do(("at", 1, ("move", 0, 2)))
            world.do(("at", 1, ("send", 3, 2, 0)))
            letters = ((1, 0, ((0, 0),)), (1, 0, ((0, 0), (1, 0))), (1, 0, ((0, 0),)), (1, 2, ((1, 0), (0, 0))))
            self.assertEqual(world.picture()[1], letters)
            self.assertEqual(world.picture()[0][1][0], ((1, 0), None, (0, 0), None, (1, 0)))
            # Answers: of the ask the value of an empty field, of the build the new thing.
            while world.do(("save", 1)) and world.houses[2].mail.done(1) < 2:
                world.do(("come", 0))
            answers = [letter for letter in world.picture()[1] if letter[0] != 1]
            self.assertEqual(answers, [(2, 1, ((2, 0),))])
