import random
import unittest

from heldafar.replay import picture_at, taken_holds
from heldafar.world import World, run
from tests.helper import NO_HANDS, NO_NUMBERS, do_gently, drawn_step, drawn_steps, picture, thing

REPLAYED = ("lists", "weights")
EMPTY = (NO_HANDS, ())
STEPS = [("at", 0, ("make", 0, 1)), ("at", 0, ("send", 0, 1, 2)), ("save", 0), ("come", 0),
         ("at", 1, ("ask", 2, 0, 3)), ("save", 1), ("come", 1), ("at", 0, ("drop", 0)), ("save", 0)]


def lengths(histories):
    return tuple(len(history) for history in histories)


class PictureAtTest(unittest.TestCase):
    def test_nothing_yet(self):
        for way in REPLAYED:
            for many in (1, 2, 8):
                self.assertEqual(picture_at(many, way, ((),) * many, (0,) * many), ((EMPTY,) * many, ()))

    def test_each_count(self):
        made = (((0, 0), None, None, None), (thing(0, 0, None),))
        got = ((None, None, (0, 0), None), ())
        for way in REPLAYED:
            histories = run(2, way, STEPS).histories()
            self.assertEqual(lengths(histories), (4, 2))
            for counts, expected in (
                    ((1, 0), picture(made, EMPTY)), ((2, 0), picture(made, EMPTY, letters=[(0, 1, ((0, 0),))])),
                    ((2, 1), picture(made, got)), ((2, 2), picture(made, got, letters=[(1, 0, ((0, 0),))])),
                    ((3, 2), picture(made, got)), ((4, 2), picture((NO_HANDS, made[1]), got))):
                self.assertEqual(picture_at(2, way, histories, counts), expected)
                self.assertEqual(picture_at(2, way, histories, list(counts)), expected)

    def test_letters_that_are_not_written_yet(self):
        for way in REPLAYED:
            histories = run(2, way, STEPS).histories()
            for counts in ((0, 1), (1, 1), (3, 0), (3, 1), (4, 1), (0, 2)):
                self.assertIsNone(picture_at(2, way, histories, counts))

    def test_counts_that_cannot_be(self):
        for way in REPLAYED:
            histories = run(2, way, STEPS).histories()
            for counts in ((), (2,), (2, 0, 0), (-1, 0), (2, -1), (5, 2), (4, 3), (10 ** 5000, 0), (-10 ** 5000, 0)):
                self.assertIsNone(picture_at(2, way, histories, counts))
                self.assertIs(taken_holds(2, way, histories, counts, ((EMPTY, EMPTY), ())), False)
            for number in NO_NUMBERS:
                self.assertIsNone(picture_at(2, way, histories, (number, 0)))
            self.assertIsNone(picture_at(3, way, histories, (2, 1)))
            self.assertIsNone(picture_at(3, way, histories, (2, 1, 0)))
            self.assertIsNone(picture_at(2, way, histories + ((),), (2, 1, 0)))

    def test_events_that_cannot_be_done(self):
        made, sent = ("step", ("make", 0, 1)), ("step", ("send", 0, 1, 0))
        for way in REPLAYED:
            for history in (
                    [("step", ("put", 0, 0, 0))], [made, ("step", ("put", 0, 1, 0))], [("step", ("free", 0))],
                    [("step", ("swep",))], [("step", None)], [("step",)], ["step"], [("stop", ("sweep",))],
                    [("heard", 1, 0)], [("heard", 0, 0)], [("heard", 2, 0)], [("heard", -1, 0)], [("heard", 1, 5)],
                    [("heard", 1, -1)], [("heard", 1, 10 ** 5000)], [("heard", 10 ** 5000, 0)], [("heard", True, 0)],
                    [("heard", 1)], [("step", ("sweep",), 0)], [()], [None], [("tick",)], [("step", ("tick",))]):
                history = tuple(history)
                self.assertIsNone(picture_at(2, way, (history, ()), (len(history), 0)), history)
                self.assertIs(taken_holds(2, way, (history, ()), (0, 0), ((EMPTY, EMPTY), ())), False)
            # The letter is written, but another one is next.
            for number in (1, 2, -1, False):
                histories = ((made, sent, sent), (("heard", 0, number),))
                self.assertIsNone(picture_at(2, way, histories, (3, 1)))
            for event in (("herd", 0, 0), ("step", 0, 0), (None, 0, 0), ("heard", 0, 0, 0), ["heard", 0, 0]):
                self.assertIsNone(picture_at(2, way, ((made, sent), (event,)), (2, 1)))
            histories = ((made, sent, sent), (("heard", 0, 0), ("heard", 0, 0)))
            self.assertIsNone(picture_at(2, way, histories, (3, 2)))
            histories = ((made, sent, sent), (("heard", 0, 0), ("heard", 0, 1), ("heard", 0, 2)))
            self.assertIsNotNone(picture_at(2, way, histories, (3, 2)))
            self.assertIsNone(picture_at(2, way, histories, (3, 3)))

    def test_houses_that_wait_for_each_other(self):
        heard = {0: ("heard", 1, 0), 1: ("heard", 0, 0)}
        sent = {0: ("step", ("send", 0, 1, 0)), 1: ("step", ("send", 0, 0, 0))}
        for way in REPLAYED:
            self.assertIsNone(picture_at(2, way, ((heard[0], sent[0]), (heard[1], sent[1])), (2, 2)))
            for first in (0, 1):
                histories = [None, None]
                histories[first] = (sent[first], heard[first])
                histories[1 - first] = (heard[1 - first], sent[1 - first])
                self.assertEqual(picture_at(2, way, tuple(histories), (2, 2)), ((EMPTY, EMPTY), ()))

    def test_a_long_way_to_and_fro(self):
        steps = []
        for again in range(60):
            steps += [("at", 0, ("make", 0, 0)), ("at", 0, ("send", 0, 2, 1)), ("round",),
                      ("at", 2, ("send", 1, 1, 1)), ("at", 2, ("drop", 1)), ("at", 0, ("drop", 0)), ("round",),
                      ("at", 1, ("drop", 1)), ("round",), ("round",)]
        for way in REPLAYED:
            world = run(3, way, steps)
            histories = world.histories()
            self.assertEqual(picture_at(3, way, histories, lengths(histories)), world.picture())

    def test_all_of_a_run_is_its_picture(self):
        for way in REPLAYED:
            for seed in range(25):
                source, world = random.Random(seed), World(1 + seed % 4, way)
                for place in range(150):
                    do_gently(world, drawn_step(source, world))
                    if place % 10 == 0:
                        histories = world.histories()
                        told = world.picture()
                        self.assertEqual(picture_at(len(histories), way, histories, lengths(histories)), told)
                        self.assertIs(
                            taken_holds(len(histories), way, histories, lengths(histories), told), True)


class TakenHoldsTest(unittest.TestCase):
    def test_each_picture_of_a_run(self):
        for way in REPLAYED:
            histories = run(2, way, STEPS).histories()
            pictures = {counts: picture_at(2, way, histories, counts)
                        for counts in ((first, second) for first in range(5) for second in range(3))}
            for counts in pictures:
                for told in pictures.values():
                    self.assertIs(taken_holds(2, way, histories, counts, told),
                                  told is not None and told == pictures[counts])

    def test_another_picture(self):
        for way in REPLAYED:
            histories = run(2, way, STEPS).histories()
            right = picture_at(2, way, histories, (2, 1))
            self.assertIs(taken_holds(2, way, histories, (2, 1), right), True)
            houses, letters = right
            for wrong in ((houses, ((0, 1, ((0, 0),)),)), (houses[:1], letters), (houses + (EMPTY,), letters),
                          (houses[::-1], letters), ((houses[0], EMPTY), letters), None, (), [houses, letters],
                          (houses,), (list(houses), letters)):
                self.assertIs(taken_holds(2, way, histories, (2, 1), wrong), False)

    def test_numbers_of_another_sort(self):
        for way in REPLAYED:
            told = ((((0, 0), None, None, None), (((0, 0), "thing", (None,)),)),)
            histories = ((("step", ("make", 0, 1)),),)
            self.assertIs(taken_holds(1, way, histories, (1,), (told, ())), True)
            told = ((((False, 0), None, None, None), (((0, 0), "thing", (None,)),)),)
            self.assertIs(taken_holds(1, way, histories, (1,), (told, ())), False)

    def test_others_cannot_follow(self):
        made = ("step", ("make", 0, 1))
        told = picture((((0, 0), None, None, None), (thing(0, 0, None),)), EMPTY)
        for way in REPLAYED:
            self.assertIs(taken_holds(2, way, ((made,), ()), (1, 0), told), True)
            for more in (("step", ("take", 1, 0, 0)), ("heard", 1, 0), ("step", "x")):
                histories = ((made, more), ())
                self.assertEqual(picture_at(2, way, histories, (1, 0)), told)
                self.assertIs(taken_holds(2, way, histories, (1, 0), told), False)
            for more in (("step", ("take", 0, 0, 0)), ("step", ("picture",))):
                self.assertIs(taken_holds(2, way, ((made, more), ()), (1, 0), told), True)

    def test_histories_are_not_changed(self):
        histories = run(2, "lists", STEPS).histories()
        kept = [list(history) for history in histories]
        counts = [2, 1]
        told = picture_at(2, "lists", kept, counts)
        taken_holds(2, "lists", kept, counts, told)
        self.assertEqual((tuple(map(tuple, kept)), counts), (histories, [2, 1]))

    def test_what_was_taken_is_let_by_later(self):
        found = 0
        for way in REPLAYED:
            for seed in range(25):
                source, world = random.Random(seed), World(2 + seed % 3, way)
                taken = {}
                for place in range(300):
                    do_gently(world, drawn_step(source, world))
                    for house in world.houses:
                        for number, counts, told in house.taken():
                            taken[(house.number, number, counts)] = told
                    if place % 60 == 59:
                        histories = world.histories()
                        for (house, number, counts), told in taken.items():
                            self.assertIs(taken_holds(len(histories), way, histories, counts, told), True)
                found += len(taken)
        self.assertGreater(found, 100)

    def test_one_house(self):
        for way in REPLAYED:
            world = World(1, way)
            for step in drawn_steps(5, way, 100, many=1):
                do_gently(world, step)
                if step[0] == "fall":
                    continue
                for number, counts, told in world.houses[0].taken():
                    self.assertIs(taken_holds(1, way, world.histories(), counts, told), True)
