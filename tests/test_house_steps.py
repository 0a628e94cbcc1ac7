import unittest
from unittest import mock

from heldafar.errors import BadStep, IsHere, NoField, NotHere, NoThing, TooMany
from heldafar.house import House
from heldafar.leasepart import LeasePart
from heldafar.listpart import ListPart
from heldafar.mail import Mail
from heldafar.weightpart import WeightPart
from tests.helper import (EXTRAS, NO_HANDS, NO_NUMBERS, WAYS, asks_told, fields_of, house_state, house_with, pointer,
                          to_hand)

GOOD_STEPS = (
    ("make", 0, 2), ("copy", 0, 1), ("drop", 0), ("put", 0, 1, 2), ("take", 0, 1, 2), ("send", 0, 1, 2),
    ("ask", 3, 0, 1), ("tell", 3, 0, 1), ("move", 0, 1), ("sweep",), ("picture",),
)
# For each number of a step what it may be at most, and what begins above that; None: there's no end.
LAST = {
    "make": (3, 4), "copy": (3, 3), "drop": (3,), "put": (3, 3, 3), "take": (3, 3, 3), "send": (3, 2, 3),
    "ask": (3, 3, 3), "tell": (3, 3, 3), "move": (3, 2), "free": (None,),
}


class StepTest(unittest.TestCase):
    def refuses(self, house, step, error):
        """The step is refused so, and nothing is changed."""
        before = house_state(house)
        with self.assertRaises(error) as caught:
            house.do(step)
        self.assertIs(caught.exception.__class__, error, step)
        self.assertEqual(house_state(house), before, step)


class FirstTest(StepTest):
    def test_a_new_house(self):
        for way, kind in zip(WAYS, (ListPart, WeightPart, LeasePart)):
            house = House(1, 3, way)
            self.assertEqual((house.number, house.many, house.way), (1, 3, way))
            self.assertIsInstance(house.mail, Mail)
            self.assertIsInstance(house.part, kind)
            self.assertEqual((house.mail.house, house.mail.many, house.part.house), (1, 3, 1))
            self.assertEqual((house.hands(), house.still(), house.things(), house.events(), house.taken()),
                             (NO_HANDS, (), (), (), []))
            self.assertEqual(house.mail.packets(), [("owned", 1, 0, 0), ("owned", 1, 2, 0)])

    def test_events(self):
        house = house_with("lists", 2, 1)
        house.do(("drop", 1))
        self.refuses(house, ("take", 1, 0, 0), NoThing)
        house.do(("send", 0, 1, 2))
        self.assertEqual(house.events(), (
            ("step", ("make", 0, 2)), ("step", ("make", 1, 1)), ("step", ("drop", 1)), ("step", ("send", 0, 1, 2))))


class BadStepTest(StepTest):
    def house(self):
        """All steps of GOOD_STEPS could be done here."""
        house = house_with("lists", 2, 1)
        to_hand(house, 3, 1, 0)
        return house

    def test_good_steps(self):
        for step in GOOD_STEPS:
            self.house().do(step)

    def test_what_is_no_step(self):
        house = self.house()
        others = (None, True, 0, "", "sweep", b"sweep", (), [], {}, ["sweep"], ("swep",), ("Sweep",), (b"sweep",),
                  (("sweep",),), (None,), (0,), ([],), ({},), (True,), ("at", 0, ("sweep",)), ("save", 0), ("tick",),
                  ("round",), ("come", 0), ("fall", 0), (mock.ANY,), mock.ANY, ("",), (set(),), ("sweep", "sweep"))
        for step in others:
            self.refuses(house, step, BadStep)

    def test_too_short_and_too_long(self):
        house = self.house()
        for step in GOOD_STEPS + (("free", 0),):
            self.refuses(house, step + (0,), BadStep)
            self.refuses(house, list(step), BadStep)
            self.refuses(house, (step[0], step[1:]) if len(step) != 2 else step[:1] + (step[1:],), BadStep)
            if len(step) > 1:
                self.refuses(house, step[:-1], BadStep)
                self.refuses(house, step[:1], BadStep)

    def test_numbers_that_are_none(self):
        house = self.house()
        for step in GOOD_STEPS + (("free", 0),):
            for place in range(1, len(step)):
                for number in NO_NUMBERS + (mock.ANY,):
                    self.refuses(house, step[:place] + (number,) + step[place + 1:], BadStep)

    def test_numbers_that_are_too_great_or_too_small(self):
        house = self.house()
        for step in GOOD_STEPS + (("free", 0),):
            for place in range(1, len(step)):
                last = LAST[step[0]][place - 1]
                bad = [-1, -10 ** 5000] + ([] if last is None else [last + 1, last + 2, 10 ** 5000])
                for number in bad:
                    self.refuses(house, step[:place] + (number,) + step[place + 1:], BadStep)

    def test_to_itself(self):
        for number in range(3):
            house = house_with("lists", 2, number=number)
            self.refuses(house, ("send", 0, number, 0), BadStep)
            self.refuses(house, ("move", 0, number), BadStep)
            for other in {0, 1, 2} - {number}:
                self.assertEqual(house.do(("send", 0, other, 0)), ("done",))
        alone = house_with("lists", 2, many=1)
        for to in (0, 1):
            self.refuses(alone, ("send", 0, to, 0), BadStep)
            self.refuses(alone, ("move", 0, to), BadStep)

    def test_it_goes_ahead_of_all_others(self):
        house = House(0, 2, "lists")
        for step in (("put", 1, 4, 0), ("put", 1, 0, 4), ("take", 1, 4, 0), ("ask", 1, 0, 4), ("tell", 1, 4, 0),
                     ("move", 1, 0), ("free", -1)):
            self.refuses(house, step, BadStep)


class MakeTest(StepTest):
    def test_each_size(self):
        house = House(2, 3, "lists")
        for number in range(5):
            self.assertEqual(house.do(("make", number % 4, number)), ("made", (2, number)))
            self.assertEqual(fields_of(house, number), ("thing", (None,) * number))
        self.assertEqual(house.hands(), ((2, 4), (2, 1), (2, 2), (2, 3)))

    def test_numbers_are_not_had_twice(self):
        house = House(0, 1, "lists")
        house.do(("make", 0, 1))
        house.do(("make", 0, 1))
        house.do(("sweep",))
        self.assertEqual(house.things(), (((0, 1), "thing", (None,)),))
        house.do(("drop", 0))
        house.do(("sweep",))
        self.assertEqual(house.do(("make", 3, 0)), ("made", (0, 2)))

    def test_forty_stand(self):
        for way in WAYS:
            house = House(0, 2, way)
            for number in range(40):
                self.assertEqual(house.do(("make", 0, 0)), ("made", (0, number)))
            self.refuses(house, ("make", 0, 0), TooMany)
            self.refuses(house, ("make", 5, 0), BadStep)
            house.do(("sweep",))
            self.assertEqual(house.do(("make", 1, 0)), ("made", (0, 40)))

    def test_a_hundred_were_made(self):
        house = House(0, 2, "weights")
        for number in range(100):
            self.assertEqual(house.do(("make", 0, 0)), ("made", (0, number)))
            house.do(("sweep",))
        self.refuses(house, ("make", 0, 0), TooMany)
        house.do(("drop", 0))
        house.do(("sweep",))
        self.assertEqual(house.things(), ())
        self.refuses(house, ("make", 0, 0), TooMany)


class HandsTest(StepTest):
    def test_copy_and_drop(self):
        house = house_with("lists", 1, 2)
        self.assertEqual(house.do(("copy", 1, 3)), ("done",))
        self.assertEqual(house.hands(), ((0, 0), (0, 1), None, (0, 1)))
        self.assertEqual(house.do(("copy", 2, 1)), ("done",))
        self.assertEqual(house.hands(), ((0, 0), None, None, (0, 1)))
        self.assertEqual(house.do(("copy", 0, 0)), ("done",))
        self.assertEqual(house.do(("drop", 3)), ("done",))
        self.assertEqual(house.do(("drop", 2)), ("done",))
        self.assertEqual(house.hands(), ((0, 0), None, None, None))

    def test_put(self):
        house = house_with("lists", 2, 1)
        to_hand(house, 2, 1, 7)
        self.assertEqual(house.do(("put", 0, 0, 1)), ("done",))
        self.assertEqual(house.do(("put", 0, 1, 2)), ("done",))
        self.assertEqual(house.do(("put", 1, 0, 1)), ("done",))
        self.assertEqual(house.things(), (((0, 0), "thing", ((0, 1), (1, 7))), ((0, 1), "thing", ((0, 1),))))
        self.assertEqual(house.do(("put", 0, 0, 3)), ("done",))
        self.assertEqual(fields_of(house, 0), ("thing", (None, (1, 7))))
        self.assertEqual(house.hands(), ((0, 0), (0, 1), (1, 7), None))

    def test_take(self):
        house = house_with("lists", 2, 1)
        house.do(("put", 0, 1, 1))
        self.assertEqual(house.do(("take", 0, 1, 3)), ("done",))
        self.assertEqual(house.hands(), ((0, 0), (0, 1), None, (0, 1)))
        self.assertEqual(house.do(("take", 0, 0, 0)), ("done",))
        self.assertEqual(house.hands(), (None, (0, 1), None, (0, 1)))
        self.assertEqual(fields_of(house, 0), ("thing", (None, (0, 1))))

    def test_put_and_take_are_refused(self):
        house = house_with("lists", 2, 0)
        to_hand(house, 2, 1, 7)
        for word in ("put", "take"):
            self.refuses(house, (word, 3, 0, 0), NoThing)
            self.refuses(house, (word, 3, 3, 0), NoThing)
            self.refuses(house, (word, 2, 0, 0), NotHere)
            self.refuses(house, (word, 2, 3, 3), NotHere)
            self.refuses(house, (word, 0, 2, 1), NoField)
            self.refuses(house, (word, 0, 3, 3), NoField)
            self.refuses(house, (word, 1, 0, 0), NoField)


class SendTest(StepTest):
    def test_an_own_name(self):
        for way, extra in zip(WAYS, (0, (1, 1), 8)):
            house = house_with(way, 2)
            self.assertEqual(house.do(("send", 0, 2, 3)), ("done",))
            self.assertEqual(house.mail.unowned(2), [("hand", 3, ((0, 0), extra))])
            self.assertEqual(house.mail.unowned(1), [])
            self.assertIs(house.part.is_held((0, 0)), True)
            self.assertEqual(house.hands()[0], (0, 0))

    def test_anothers_name(self):
        for way, extra in zip(WAYS, (0, (1, 4), 8)):
            house = House(0, 3, way)
            to_hand(house, 1, 1, 7)
            house.do(("send", 1, 2, 0))
            self.assertEqual(house.mail.unowned(2), [("hand", 0, ((1, 7), extra))])
            self.assertEqual(house.mail.unowned(1), [("list", (1, 7), 2)] if way == "lists" else [])
            self.assertEqual(house.part.pinned(), ((1, 7),) if way == "lists" else ())

    def test_to_its_home(self):
        for way, extra in zip(WAYS, (0, (1, 4), 8)):
            house = House(0, 3, way)
            to_hand(house, 1, 1, 7)
            house.do(("send", 1, 1, 0))
            self.assertEqual(house.mail.unowned(1), [("hand", 0, ((1, 7), extra))])
            self.assertEqual(house.part.pinned(), ())

    def test_an_empty_hand(self):
        for way in WAYS:
            house = house_with(way, 2)
            self.assertEqual(house.do(("send", 3, 1, 0)), ("done",))
            self.assertEqual(house.mail.unowned(1), [("hand", 0, None)])


class AskTest(StepTest):
    def test_ask(self):
        for way, extra in zip(WAYS, (0, (1, 4), 8)):
            house = house_with(way, 2)
            to_hand(house, 1, 2, 7)
            self.assertEqual(house.do(("ask", 1, 3, 0)), ("asked", 0))
            self.assertEqual(house.mail.unowned(2), [("ask", 0, ((2, 7), extra), 3)])
            self.assertEqual(house.mail.unowned(1), [])
            self.assertEqual(house.still(), ())
            self.assertEqual(asks_told(house), [None])

    def test_tell(self):
        for way, first, second, third in zip(WAYS, (0, (1, 4), 8), (0, (1, 1), 8), (0, (1, 4), 8)):
            house = house_with(way, 2)
            to_hand(house, 1, 2, 7)
            self.assertEqual(house.do(("tell", 1, 3, 0)), ("asked", 0))
            self.assertEqual(house.mail.unowned(2), [("tell", 0, ((2, 7), first), 3, ((0, 0), second))])
            self.assertEqual(house.still(), ((0, 0),))
            to_hand(house, 2, 1, 4)
            self.assertEqual(house.do(("tell", 1, 0, 2)), ("asked", 1))
            self.assertEqual(house.mail.unowned(2)[1][4], ((1, 4), third))
            self.assertEqual(house.still(), ((0, 0), (1, 4)))
            self.assertEqual(house.mail.unowned(1), [("list", (1, 4), 2)] if way == "lists" else [])
            self.assertEqual(house.do(("tell", 1, 0, 3)), ("asked", 2))
            self.assertIsNone(house.mail.unowned(2)[2][4])
            self.assertEqual(house.still(), ((0, 0), (1, 4)))
            self.assertEqual(asks_told(house), [None, None, None])

    def test_the_asked_name_is_handed_on_first(self):
        house = House(0, 3, "weights")
        to_hand(house, 1, 2, 7)
        house.do(("tell", 1, 0, 1))
        self.assertEqual(house.mail.unowned(2), [("tell", 0, ((2, 7), (1, 4)), 0, ((2, 7), (1, 8)))])
        self.assertEqual(house.part.weight((2, 7)), (1, 8))

    def test_move(self):
        for way, extras in zip(WAYS, ((0, 0, 0), ((1, 4), (1, 1), (1, 8)), (8, 8, 8))):
            house = house_with(way, 4, 1)
            to_hand(house, 2, 1, 4)
            for field, other in enumerate((2, 1, 3, 2)):
                house.do(("put", 0, field, other))
            self.assertEqual(house.do(("move", 0, 2)), ("asked", 0))
            names = ((1, 4), (0, 1), None, (1, 4))
            pointers = tuple(None if name is None else (name, extra)
                             for name, extra in zip(names, (extras[0], extras[1], None, extras[2])))
            self.assertEqual(house.mail.unowned(2), [("build", 0, pointers)])
            self.assertEqual(house.mail.unowned(1), [("list", (1, 4), 2)] * 2 if way == "lists" else [])
            self.assertEqual(fields_of(house, 0), ("thing", names))
            self.assertEqual((house.still(), asks_told(house)), ((), [None]))

    def test_move_of_a_thing_without_fields(self):
        house = house_with("lists", 0)
        self.assertEqual(house.do(("move", 0, 1)), ("asked", 0))
        self.assertEqual(house.mail.unowned(1), [("build", 0, ())])

    def test_they_are_refused(self):
        house = house_with("lists", 2)
        to_hand(house, 1, 2, 7)
        for word in ("ask", "tell"):
            self.refuses(house, (word, 3, 0, 0), NoThing)
            self.refuses(house, (word, 0, 0, 1), IsHere)
            self.refuses(house, (word, 0, 3, 3), IsHere)
        self.refuses(house, ("move", 3, 1), NoThing)
        self.refuses(house, ("move", 1, 1), NotHere)
        self.refuses(house, ("move", 1, 2), NotHere)

    def test_six_tells_wait(self):
        for way in WAYS:
            house = house_with(way, 2)
            to_hand(house, 1, 2, 7)
            for number in range(3):
                house.do(("ask", 1, 0, 0))
                house.do(("move", 0, 1))
            # What they tell may be nothing: they wait nevertheless.
            for number in range(6):
                self.assertEqual(house.do(("tell", 1, 0, 3 if number % 2 else 0)), ("asked", 6 + number))
            self.assertEqual(house.still(), ((0, 0),) * 3)
            self.refuses(house, ("tell", 1, 0, 0), TooMany)
            self.refuses(house, ("tell", 3, 0, 0), NoThing)
            self.refuses(house, ("tell", 0, 0, 0), IsHere)
            self.refuses(house, ("tell", 1, 4, 0), BadStep)
            self.assertEqual(house.do(("ask", 1, 0, 0)), ("asked", 12))
            self.assertEqual(house.do(("move", 0, 1)), ("asked", 13))
            house.hear(2, ("answer", 7, "done", None))
            self.assertEqual(house.do(("tell", 1, 0, 0)), ("asked", 14))
            self.refuses(house, ("tell", 1, 0, 0), TooMany)

    def test_told_of_numbers_that_were_not_told(self):
        house = house_with("lists", 2)
        to_hand(house, 1, 2, 7)
        for number in (0, 1, -1):
            with self.assertRaises(NoThing):
                house.told(number)
        house.do(("ask", 1, 0, 0))
        self.assertIsNone(house.told(0))
        for number in (1, -1, 10 ** 5000) + NO_NUMBERS:
            with self.assertRaises(NoThing):
                house.told(number)

    def test_extras_of_the_helper(self):
        # A letter's pointer has what the way puts beside a name.
        for way in WAYS:
            house = House(0, 3, way)
            to_hand(house, 0, 2, 7)
            self.assertEqual(house.hands()[0], (2, 7))
            self.assertIs(house.part.knows((2, 7)), True)
            self.assertEqual(pointer(way, 2, 7), ((2, 7), EXTRAS[way]))
