import unittest

from heldafar.errors import NoPacket
from heldafar.house import House
from tests.helper import WAYS, asks_told, fields_of, house_state, house_with, pointer, to_hand


def answers(house, to):
    """The answers among the letters to another house."""
    return [body for body in house.mail.unowned(to) if body[0] == "answer"]


def marked(way, *sizes):
    """House 0; its thing 0 has become a mark of (1, 9), which no hand and no field has."""
    house = house_with(way, *sizes)
    house.do(("move", 0, 1))
    house.hear(1, ("answer", 0, "value", pointer(way, 1, 9)))
    house.do(("drop", 0))
    return house


class TakeTest(unittest.TestCase):
    def test_letters_are_heard_in_order(self):
        for way in WAYS:
            house = House(0, 3, way)
            self.assertEqual(house.take(("letter", 1, 0, 1, ("hand", 2, pointer(way, 1, 5)))), 0)
            self.assertEqual(house.hands(), (None,) * 4)
            self.assertEqual(house.take(("letter", 1, 0, 2, ("hand", 3, pointer(way, 1, 6)))), 0)
            self.assertEqual(house.take(("letter", 1, 0, 0, ("hand", 2, pointer(way, 1, 4)))), 3)
            self.assertEqual(house.hands(), (None, None, (1, 5), (1, 6)))
            self.assertEqual(house.take(("letter", 1, 0, 0, ("hand", 2, pointer(way, 1, 4)))), 0)
            self.assertEqual(house.take(("letter", 2, 0, 0, ("hand", 0, None))), 1)
            self.assertEqual(house.take(("owned", 2, 0, 0)), 0)
            self.assertEqual(house.events(), (("heard", 1, 0), ("heard", 1, 1), ("heard", 1, 2), ("heard", 2, 0)))
            self.assertEqual(house.mail.done(1), 3)

    def test_hear_alone_is_no_event(self):
        house = House(0, 3, "lists")
        house.hear(1, ("hand", 0, pointer("lists", 1, 5)))
        self.assertEqual((house.events(), house.mail.done(1)), ((), 0))

    def test_no_packets_are_refused(self):
        house = house_with("lists", 1)
        before = house_state(house)
        for packet in (None, (), ("letter",), ("letter", 0, 0, 0, ("hand", 0, None)), ("owned", 1, 0, 1),
                       ("letter", 1, 2, 0, ("hand", 0, None)), ("letter", 1, 0, -1, ("hand", 0, None)),
                       ("letter", 3, 0, 0, ("hand", 0, None)), ["owned", 1, 0, 0], ("owned", True, 0, 0)):
            with self.assertRaises(NoPacket):
                house.take(packet)
        self.assertEqual(house_state(house), before)


class HandTest(unittest.TestCase):
    def test_a_name_of_another(self):
        for way in WAYS:
            house = house_with(way, 1)
            house.hear(1, ("hand", 0, pointer(way, 2, 5)))
            self.assertEqual(house.hands(), ((2, 5), None, None, None))
            self.assertIs(house.part.knows((2, 5)), True)

    def test_nothing(self):
        for way in WAYS:
            house = house_with(way, 1, 1)
            house.hear(1, ("hand", 1, None))
            self.assertEqual(house.hands(), ((0, 0), None, None, None))

    def test_an_own_name_goes_through_got(self):
        house = house_with("weights", 1)
        house.do(("send", 0, 1, 0))
        house.hear(1, ("hand", 3, ((0, 0), (1, 4))))
        self.assertEqual(house.hands(), ((0, 0), None, None, (0, 0)))
        self.assertEqual(house.part.out((0, 0)), (3, 4))

    def test_an_own_mark_becomes_what_it_has(self):
        for way in WAYS:
            house = marked(way, 1)
            house.hear(1, ("hand", 3, pointer(way, 0, 0)))
            self.assertEqual(house.hands(), (None, None, None, (1, 9)))

    def test_the_weight_of_an_own_mark_comes_back(self):
        house = house_with("weights", 1)
        house.do(("send", 0, 1, 0))
        house.do(("move", 0, 1))
        house.hear(1, ("answer", 0, "value", ((1, 9), (1, 1))))
        house.hear(1, ("hand", 3, ((0, 0), (1, 2))))
        self.assertEqual(house.hands(), ((1, 9), None, None, (1, 9)))
        self.assertEqual(house.part.out((0, 0)), (1, 2))
        self.assertEqual(house.part.weight((1, 9)), (1, 1))

    def test_a_lapsed_pointer_is_none(self):
        house = house_with("leases", 1)
        house.lapse(6)
        for name in ((2, 5), (0, 0)):
            house.hear(1, ("hand", 1, (name, 6)))
            self.assertEqual(house.hands()[1], name)
            house.hear(1, ("hand", 1, (name, 5)))
            self.assertIsNone(house.hands()[1])
        self.assertEqual(house.part.lease((2, 5)), 6)
        house.hear(1, ("hand", 1, ((2, 6), 5)))
        self.assertIs(house.part.knows((2, 6)), False)

    def test_by_lists_no_number_is_over(self):
        house = House(0, 3, "lists")
        house.lapse(6)
        for number, extra in enumerate((0, 5, 6, 10 ** 5000)):
            house.hear(1, ("hand", 1, ((2, number), extra)))
            self.assertEqual(house.hands()[1], (2, number))


class HomeOfAnAskTest(unittest.TestCase):
    def check_answers(self, make, body, expected):
        for way in WAYS:
            house = make(way)
            house.hear(2, body(way))
            self.assertEqual(answers(house, 2), [expected(way)])
            self.assertEqual(answers(house, 1), [])

    def test_value(self):
        def make(way):
            house = house_with(way, 3, 1)
            to_hand(house, 2, 1, 7)
            house.do(("put", 0, 0, 1))
            house.do(("put", 0, 1, 2))
            return house
        own = {"lists": 0, "weights": (1, 1), "leases": 8}
        others = {"lists": 0, "weights": (1, 4), "leases": 8}
        for field, told in ((0, lambda way: ((0, 1), own[way])), (1, lambda way: ((1, 7), others[way])),
                            (2, lambda way: None)):
            self.check_answers(make, lambda way: ("ask", 6, pointer(way, 0, 0), field),
                               lambda way: ("answer", 6, "value", told(way)))

    def test_the_value_is_handed_on(self):
        for way in WAYS:
            house = house_with(way, 3, 1)
            to_hand(house, 2, 1, 7)
            house.do(("put", 0, 0, 1))
            house.do(("put", 0, 1, 2))
            house.hear(2, ("ask", 0, pointer(way, 0, 0), 0))
            self.assertIs(house.part.is_held((0, 1)), True)
            house.hear(2, ("ask", 1, pointer(way, 0, 0), 1))
            self.assertEqual(house.mail.unowned(1), [("list", (1, 7), 2)] if way == "lists" else [])

    def test_the_asked_name_goes_through_got(self):
        house = house_with("weights", 1)
        house.do(("send", 0, 2, 0))
        house.hear(2, ("ask", 0, ((0, 0), (1, 4)), 0))
        self.assertEqual(house.part.out((0, 0)), (3, 4))

    def test_none(self):
        for size, field in ((1, 1), (0, 0), (2, 3), (3, 3)):
            self.check_answers(lambda way: house_with(way, size),
                               lambda way: ("ask", 0, pointer(way, 0, 0), field),
                               lambda way: ("answer", 0, "none", None))

    def test_mark(self):
        others = {"lists": 0, "weights": (1, 4), "leases": 8}
        for field in range(4):
            self.check_answers(lambda way: marked(way, 1),
                               lambda way: ("ask", 0, pointer(way, 0, 0), field),
                               lambda way: ("answer", 0, "mark", ((1, 9), others[way])))

    def test_gone(self):
        for number in (1, 50, 99):
            self.check_answers(lambda way: house_with(way, 1),
                               lambda way: ("ask", 4, pointer(way, 0, number), 0),
                               lambda way: ("answer", 4, "gone", None))

        def swept(way):
            house = house_with(way, 1)
            house.do(("drop", 0))
            house.do(("sweep",))
            return house
        self.check_answers(swept, lambda way: ("ask", 4, pointer(way, 0, 0), 0),
                           lambda way: ("answer", 4, "gone", None))

    def test_an_empty_mark_is_gone(self):
        def emptied(way):
            house = marked(way, 1)
            house.hear(1, ("free", ((0, 0),)))
            return house
        for way in WAYS:
            self.assertEqual(emptied(way).things(), (((0, 0), "mark", (None,)),))
        self.check_answers(emptied, lambda way: ("ask", 4, pointer(way, 0, 0), 0),
                           lambda way: ("answer", 4, "gone", None))
        self.check_answers(emptied, lambda way: ("tell", 4, pointer(way, 0, 0), 0, None),
                           lambda way: ("answer", 4, "gone", None))

    def test_a_lapsed_pointer_is_gone(self):
        for word, more in (("ask", ()), ("tell", (None,))):
            house = house_with("leases", 1)
            house.lapse(9)
            house.hear(2, (word, 0, ((0, 0), 8), 0) + more)
            house.hear(2, (word, 1, ((0, 0), 9), 0) + more)
            self.assertEqual(answers(house, 2), [
                ("answer", 0, "gone", None), ("answer", 1, "value" if word == "ask" else "done", None)])


class HomeOfATellTest(unittest.TestCase):
    def test_done(self):
        for way in WAYS:
            house = house_with(way, 2, 1)
            house.hear(2, ("tell", 5, pointer(way, 0, 0), 1, pointer(way, 1, 7)))
            self.assertEqual(fields_of(house, 0), ("thing", (None, (1, 7))))
            self.assertIs(house.part.knows((1, 7)), True)
            house.hear(1, ("tell", 0, pointer(way, 0, 0), 0, pointer(way, 0, 1)))
            self.assertEqual(fields_of(house, 0), ("thing", ((0, 1), (1, 7))))
            house.hear(2, ("tell", 6, pointer(way, 0, 0), 1, None))
            self.assertEqual(fields_of(house, 0), ("thing", ((0, 1), None)))
            self.assertEqual(answers(house, 2), [("answer", 5, "done", None), ("answer", 6, "done", None)])
            self.assertEqual(answers(house, 1), [("answer", 0, "done", None)])

    def test_none_mark_and_gone_put_nothing(self):
        others = {"lists": 0, "weights": (1, 4), "leases": 8}
        for way in WAYS:
            house = marked(way, 1, 2)
            before = house.things()
            house.hear(2, ("tell", 0, pointer(way, 0, 1), 2, pointer(way, 1, 7)))
            house.hear(2, ("tell", 1, pointer(way, 0, 0), 0, pointer(way, 1, 7)))
            house.hear(2, ("tell", 2, pointer(way, 0, 5), 0, pointer(way, 1, 7)))
            self.assertEqual(answers(house, 2), [
                ("answer", 0, "none", None), ("answer", 1, "mark", ((1, 9), others[way])),
                ("answer", 2, "gone", None)])
            self.assertEqual(house.things(), before)
            # What was told came nevertheless, and is let go of when it's swept.
            self.assertIs(house.part.knows((1, 7)), True)
        self.assertEqual(house_with("lists").part.pinned(), ())

    def test_both_pointers_go_through_got(self):
        house = house_with("weights", 1)
        house.do(("send", 0, 2, 0))
        for told in ((0, 0), (0, 0)):
            house.hear(2, ("tell", 0, ((0, 0), (1, 4)), 3, (told, (1, 8))))
        self.assertEqual(house.part.out((0, 0)), (1, 4))

    def test_an_own_mark_that_is_told(self):
        for way in WAYS:
            house = marked(way, 1, 2)
            house.hear(2, ("tell", 0, pointer(way, 0, 1), 1, pointer(way, 0, 0)))
            self.assertEqual(fields_of(house, 1), ("thing", (None, (1, 9))))

    def test_a_lapsed_pointer_that_is_told(self):
        house = house_with("leases", 1, 1)
        house.do(("put", 0, 0, 1))
        house.lapse(3)
        house.hear(2, ("tell", 0, ((0, 0), 3), 0, ((1, 7), 2)))
        self.assertEqual(fields_of(house, 0), ("thing", (None,)))
        self.assertEqual(answers(house, 2), [("answer", 0, "done", None)])


class BuildTest(unittest.TestCase):
    def test_value(self):
        for way, extra in zip(WAYS, (0, (1, 1), 8)):
            house = house_with(way, 1)
            pointers = (pointer(way, 2, 4), None, pointer(way, 0, 0), pointer(way, 1, 3))
            house.hear(2, ("build", 3, pointers))
            self.assertEqual(fields_of(house, 1), ("thing", ((2, 4), None, (0, 0), (1, 3))))
            self.assertEqual(answers(house, 2), [("answer", 3, "value", ((0, 1), extra))])
            self.assertIs(house.part.is_held((0, 1)), True)
            self.assertEqual(house.hands(), ((0, 0), None, None, None))
            house.do(("sweep",))
            self.assertEqual(len(house.things()), 2)
            self.assertEqual(house.do(("make", 1, 0)), ("made", (0, 2)))

    def test_without_fields(self):
        house = House(0, 3, "lists")
        house.hear(2, ("build", 3, ()))
        self.assertEqual(house.things(), (((0, 0), "thing", ()),))

    def test_own_marks_and_lapsed_pointers(self):
        for way in WAYS:
            house = marked(way, 1)
            house.hear(2, ("build", 3, (pointer(way, 0, 0),)))
            self.assertEqual(fields_of(house, 1), ("thing", ((1, 9),)))
        house = House(0, 3, "leases")
        house.lapse(5)
        house.hear(2, ("build", 3, (((1, 1), 4), ((1, 2), 5))))
        self.assertEqual(fields_of(house, 0), ("thing", (None, (1, 2))))

    def test_none(self):
        for way in WAYS:
            house = House(0, 3, way)
            for number in range(40):
                house.do(("make", 0, 0))
            before = house.things()
            house.hear(2, ("build", 3, (pointer(way, 2, 4),)))
            self.assertEqual(answers(house, 2), [("answer", 3, "none", None)])
            self.assertEqual(house.things(), before)
            self.assertIs(house.part.knows((2, 4)), True)
            house.do(("sweep",))
            self.assertIs(house.part.knows((2, 4)), False)
            house.hear(2, ("build", 4, ()))
            self.assertEqual(answers(house, 2)[1][2], "value")
            self.assertEqual(house.things()[-1][0], (0, 40))

    def test_a_hundred_were_made(self):
        house = House(0, 3, "lists")
        for number in range(99):
            house.do(("make", 0, 0))
            house.do(("sweep",))
        house.hear(2, ("build", 0, ()))
        house.hear(2, ("build", 1, ()))
        self.assertEqual([body[2] for body in answers(house, 2)], ["value", "none"])


class AskerTest(unittest.TestCase):
    def asked(self, way, *sizes):
        """House 0 has its own things in the first hands, (1, 7) in the last one, and asks for its field 0."""
        house = house_with(way, *sizes)
        to_hand(house, 3, 1, 7)
        house.do(("ask", 3, 0, 2))
        return house

    def test_value(self):
        for way in WAYS:
            house = self.asked(way, 1)
            self.assertIsNone(house.told(0))
            house.hear(1, ("answer", 0, "value", pointer(way, 2, 5)))
            self.assertEqual(house.told(0), ("value", (2, 5)))
            self.assertEqual(house.hands(), ((0, 0), None, (2, 5), (1, 7)))
            self.assertIs(house.part.knows((2, 5)), True)

    def test_value_of_nothing_and_of_own_names(self):
        for way in WAYS:
            house = self.asked(way, 1, 1)
            house.do(("copy", 0, 2))
            house.hear(1, ("answer", 0, "value", None))
            self.assertEqual((house.told(0), house.hands()[2]), (("value", None), None))
            house.do(("ask", 3, 1, 2))
            house.hear(1, ("answer", 1, "value", pointer(way, 0, 1)))
            self.assertEqual((house.told(1), house.hands()[2]), (("value", (0, 1)), (0, 1)))

    def test_value_of_an_own_mark(self):
        for way in WAYS:
            house = marked(way, 1)
            to_hand(house, 3, 1, 7)
            house.do(("ask", 3, 0, 2))
            house.hear(1, ("answer", 1, "value", pointer(way, 0, 0)))
            self.assertEqual((house.told(1), house.hands()[2]), (("value", (1, 9)), (1, 9)))

    def test_none_and_gone(self):
        for way in WAYS:
            for word in ("none", "gone"):
                house = self.asked(way, 1)
                before = house.hands()
                house.hear(1, ("answer", 0, word, None))
                self.assertEqual((house.told(0), house.hands()), ((word,), before))

    def test_a_pointer_that_lapses_under_way(self):
        house = self.asked("leases", 1)
        house.do(("copy", 0, 2))
        house.lapse(9)
        house.hear(1, ("answer", 0, "value", ((2, 5), 8)))
        self.assertEqual((house.told(0), house.hands()), (("value", None), ((0, 0), None, None, None)))
        house = self.asked("leases", 1)
        house.lapse(5)
        house.hear(1, ("answer", 0, "mark", ((2, 5), 4)))
        self.assertEqual((house.told(0), house.hands()[3]), (("gone",), (1, 7)))

    def test_a_mark_of_nothing_is_gone_by_whichever_way(self):
        for way in WAYS:
            house = self.asked(way, 1)
            letters = house.mail.unowned(1)
            house.hear(1, ("answer", 0, "mark", None))
            self.assertEqual((house.told(0), house.hands()[3]), (("gone",), (1, 7)))
            self.assertEqual(house.mail.unowned(1), letters)

    def test_an_own_mark_that_was_emptied(self):
        for way in WAYS:
            house = marked(way, 1)
            to_hand(house, 3, 1, 7)
            house.do(("ask", 3, 0, 2))
            house.do(("ask", 3, 0, 1))
            house.hear(1, ("free", ((0, 0),)))
            house.hear(1, ("answer", 1, "mark", pointer(way, 0, 0)))
            house.hear(1, ("answer", 2, "value", pointer(way, 0, 0)))
            self.assertEqual((house.told(1), house.told(2)), (("gone",), ("value", None)))

    def test_mark(self):
        for way, extra in zip(WAYS, (0, (1, 4), 8)):
            house = self.asked(way, 2, 1)
            for hand, field in ((0, 1), (1, 0)):
                house.do(("put", hand, field, 3))
            house.do(("copy", 3, 1))
            house.do(("tell", 3, 0, 3))
            house.hear(1, ("answer", 0, "mark", pointer(way, 2, 5)))
            self.assertEqual(house.hands(), ((0, 0), (2, 5), None, (2, 5)))
            self.assertEqual(house.things(), (((0, 0), "thing", (None, (2, 5))), ((0, 1), "thing", ((2, 5),))))
            self.assertEqual(house.still(), ((2, 5),))
            self.assertIsNone(house.told(0))
            self.assertEqual(house.mail.unowned(2), [("ask", 0, ((2, 5), extra), 0)])
            house.hear(2, ("answer", 0, "value", pointer(way, 0, 1)))
            self.assertEqual((house.told(0), house.hands()[2]), (("value", (0, 1)), (0, 1)))

    def test_from_mark_to_mark(self):
        for way in WAYS:
            house = self.asked(way, 1)
            house.hear(1, ("answer", 0, "mark", pointer(way, 2, 5)))
            house.hear(2, ("answer", 0, "mark", pointer(way, 1, 8)))
            self.assertEqual(house.hands()[3], (1, 8))
            asks = [(to, body[1], body[2][0], body[3]) for to in (1, 2) for body in house.mail.unowned(to)
                    if body[0] == "ask"]
            self.assertEqual(asks, [(1, 0, (1, 7), 0), (1, 0, (1, 8), 0), (2, 0, (2, 5), 0)])
            house.hear(1, ("answer", 0, "none", None))
            self.assertEqual(asks_told(house), [("none",)])

    def test_a_mark_has_the_new_name_too(self):
        for way in WAYS:
            house = marked(way, 1)
            house.hear(1, ("hand", 3, pointer(way, 0, 0)))
            house.do(("ask", 3, 0, 2))
            house.hear(1, ("answer", 1, "mark", pointer(way, 2, 5)))
            self.assertEqual(house.things(), (((0, 0), "mark", ((2, 5),)),))
            self.assertEqual(house.hands()[3], (2, 5))

    def test_a_mark_of_a_thing_here_is_asked_at_once(self):
        for way in WAYS:
            house = self.asked(way, 1, 1)
            house.do(("put", 0, 0, 1))
            letters = house.mail.packets()
            house.hear(1, ("answer", 0, "mark", pointer(way, 0, 0)))
            self.assertEqual(house.hands(), ((0, 0), (0, 1), (0, 1), (0, 0)))
            self.assertEqual(house.told(0), ("value", (0, 1)))
            self.assertEqual(house.mail.packets(), letters)

    def test_a_mark_of_a_thing_here_without_such_a_field(self):
        for way in WAYS:
            house = self.asked(way, 0)
            house.hear(1, ("answer", 0, "mark", pointer(way, 0, 0)))
            self.assertEqual(house.told(0), ("none",))
            self.assertEqual(house.hands(), ((0, 0), None, None, (0, 0)))

    def test_a_mark_of_an_own_mark(self):
        for way in WAYS:
            house = marked(way, 1)
            to_hand(house, 3, 2, 7)
            house.do(("ask", 3, 1, 2))
            house.hear(2, ("answer", 1, "mark", pointer(way, 0, 0)))
            self.assertEqual(house.hands()[3], (1, 9))
            last = house.mail.unowned(1)[-1]
            self.assertEqual((last[:2], last[2][0], last[3]), (("ask", 1), (1, 9), 1))
            self.assertIsNone(house.told(1))

    def test_what_was_told_stays(self):
        for way in WAYS:
            house = self.asked(way, 1)
            house.hear(1, ("answer", 0, "none", None))
            before = house.hands(), house.mail.unowned(1), house.mail.unowned(2)
            for word in ("value", "mark"):
                house.hear(1, ("answer", 0, word, pointer(way, 2, 5)))
            house.hear(1, ("answer", 0, "gone", None))
            house.hear(1, ("answer", 7, "gone", None))
            self.assertEqual(asks_told(house), [("none",)])
            self.assertEqual((house.hands(), house.mail.unowned(1), house.mail.unowned(2)), before)


class TellerTest(unittest.TestCase):
    def told(self, way, *sizes):
        """House 0 tells (1, 7), of its last hand, what its first hand has, for field 1."""
        house = house_with(way, *sizes)
        to_hand(house, 3, 1, 7)
        house.do(("tell", 3, 1, 0))
        return house

    def test_answers(self):
        for way in WAYS:
            for word in ("done", "none", "gone"):
                house = self.told(way, 1)
                before = house.hands()
                self.assertEqual((house.told(0), house.still()), (None, ((0, 0),)))
                house.hear(1, ("answer", 0, word, None))
                self.assertEqual((house.told(0), house.still(), house.hands()), ((word,), (), before))

    def test_what_is_still_told_stands(self):
        for way in WAYS:
            house = self.told(way, 1)
            house.do(("drop", 0))
            house.lapse(20)
            self.assertEqual(house.do(("sweep",)), ("swept", ()))
            self.assertEqual(house.things(), (((0, 0), "thing", (None,)),))

    def test_mark(self):
        for way, first, second in zip(WAYS, (0, (1, 4), 8), (0, (1, 1), 8)):
            house = self.told(way, 1)
            house.hear(1, ("answer", 0, "mark", pointer(way, 2, 5)))
            self.assertEqual(house.mail.unowned(2), [("tell", 0, ((2, 5), first), 1, ((0, 0), second))])
            self.assertEqual((house.told(0), house.still(), house.hands()[3]), (None, ((0, 0),), (2, 5)))
            house.hear(2, ("answer", 0, "done", None))
            self.assertEqual((house.told(0), house.still()), (("done",), ()))

    def test_mark_of_nothing(self):
        for way in WAYS:
            house = self.told(way, 1)
            house.hear(1, ("answer", 0, "mark", None))
            self.assertEqual((house.told(0), house.still(), house.hands()[3]), (("gone",), (), (1, 7)))

    def test_the_told_name_itself_becomes_new(self):
        for way, first, second in zip(WAYS, (0, (1, 4), 8), (0, (1, 8), 8)):
            house = House(0, 3, way)
            to_hand(house, 3, 1, 7)
            house.do(("tell", 3, 1, 3))
            house.hear(1, ("answer", 0, "mark", pointer(way, 2, 5)))
            self.assertEqual(house.mail.unowned(2), [("tell", 0, ((2, 5), first), 1, ((2, 5), second))])
            self.assertEqual(house.still(), ((2, 5),))

    def test_mark_of_a_thing_here(self):
        for way in WAYS:
            house = self.told(way, 1, 2)
            letters = house.mail.packets()
            house.hear(1, ("answer", 0, "mark", pointer(way, 0, 1)))
            self.assertEqual(fields_of(house, 1), ("thing", (None, (0, 0))))
            self.assertEqual((house.told(0), house.still(), house.hands()[3]), (("done",), (), (0, 1)))
            self.assertEqual(house.mail.packets(), letters)

    def test_mark_of_a_thing_here_without_such_a_field(self):
        for way in WAYS:
            house = self.told(way, 1, 1)
            house.hear(1, ("answer", 0, "mark", pointer(way, 0, 1)))
            self.assertEqual(fields_of(house, 1), ("thing", (None,)))
            self.assertEqual((house.told(0), house.still()), (("none",), ()))


class MoverTest(unittest.TestCase):
    def moved(self, way):
        """House 0 moves its thing 0, which has itself and (2, 5), to house 1."""
        house = house_with(way, 2, 1)
        to_hand(house, 2, 2, 5)
        house.do(("put", 0, 0, 0))
        house.do(("put", 0, 1, 2))
        house.do(("put", 1, 0, 0))
        to_hand(house, 3, 1, 7)
        house.do(("tell", 3, 0, 0))
        house.do(("copy", 0, 3))
        house.do(("move", 0, 1))
        return house

    def check_kept(self, house, things):
        self.assertEqual(house.told(1), ("kept",))
        self.assertEqual(house.things(), things)

    def test_value(self):
        for way in WAYS:
            house = self.moved(way)
            house.hear(1, ("answer", 1, "value", pointer(way, 1, 9)))
            self.assertEqual(house.told(1), ("value", (1, 9)))
            self.assertEqual(house.things(), (((0, 0), "mark", ((1, 9),)), ((0, 1), "thing", ((1, 9),))))
            self.assertEqual(house.hands(), ((1, 9), (0, 1), (2, 5), (1, 9)))
            self.assertEqual(house.still(), ((1, 9),))

    def test_none(self):
        for way in WAYS:
            house = self.moved(way)
            before = house.things()
            house.hear(1, ("answer", 1, "none", None))
            self.check_kept(house, before)
            self.assertEqual(house.hands()[0], (0, 0))

    def test_a_changed_field(self):
        for way in WAYS:
            house = self.moved(way)
            house.do(("put", 0, 1, 1))
            before = house.things()
            house.hear(1, ("answer", 1, "value", pointer(way, 1, 9)))
            self.check_kept(house, before)
            self.assertEqual(house.hands()[0], (0, 0))
            # The new thing is known till it's swept.
            self.assertIs(house.part.knows((1, 9)), True)

    def test_a_field_changed_to_and_fro(self):
        for way in WAYS:
            house = self.moved(way)
            house.do(("put", 0, 1, 1))
            house.do(("put", 0, 1, 2))
            house.hear(1, ("answer", 1, "value", pointer(way, 1, 9)))
            self.assertEqual(house.told(1), ("value", (1, 9)))

    def test_a_field_that_got_a_new_name(self):
        for way in WAYS:
            house = self.moved(way)
            house.do(("ask", 2, 0, 1))
            house.hear(2, ("answer", 2, "mark", pointer(way, 1, 3)))
            before = house.things()
            house.hear(1, ("answer", 1, "value", pointer(way, 1, 9)))
            self.check_kept(house, before)

    def test_the_thing_has_gone(self):
        for way in WAYS:
            house = house_with(way, 1)
            house.do(("move", 0, 1))
            house.do(("drop", 0))
            house.do(("sweep",))
            self.assertEqual(house.things(), ())
            house.hear(1, ("answer", 0, "value", pointer(way, 1, 9)))
            self.assertEqual((house.told(0), house.things()), (("kept",), ()))

    def test_it_has_become_a_mark(self):
        for way in WAYS:
            house = house_with(way, 1)
            house.do(("move", 0, 1))
            house.do(("move", 0, 2))
            house.hear(2, ("answer", 1, "value", pointer(way, 2, 4)))
            house.hear(1, ("answer", 0, "value", pointer(way, 1, 9)))
            self.assertEqual(asks_told(house), [("kept",), ("value", (2, 4))])
            self.assertEqual((house.things(), house.hands()[0]), ((((0, 0), "mark", ((2, 4),)),), (2, 4)))

    def test_a_mark_with_the_same_field(self):
        # The moved thing's only field has the very name that its mark has later.
        for way in WAYS:
            house = house_with(way, 1)
            to_hand(house, 1, 2, 4)
            house.do(("put", 0, 0, 1))
            house.do(("move", 0, 1))
            house.do(("move", 0, 2))
            house.hear(2, ("answer", 1, "value", pointer(way, 2, 4)))
            house.hear(1, ("answer", 0, "value", pointer(way, 1, 9)))
            self.assertEqual(asks_told(house), [("kept",), ("value", (2, 4))])

    def test_the_pointer_did_not_come(self):
        for way in WAYS:
            house = self.moved(way)
            before = house.things()
            house.hear(1, ("answer", 1, "value", None))
            self.check_kept(house, before)
        house = house_with("leases", 1)
        house.do(("move", 0, 1))
        house.lapse(9)
        house.hear(1, ("answer", 0, "value", ((1, 9), 8)))
        self.assertEqual((house.told(0), house.things()), (("kept",), (((0, 0), "thing", (None,)),)))

    def test_its_own_name_is_no_new_one(self):
        for way in WAYS:
            house = self.moved(way)
            before = house.things()
            house.hear(1, ("answer", 1, "value", pointer(way, 0, 0)))
            self.check_kept(house, before)

    def test_a_field_that_lapsed(self):
        house = self.moved("leases")
        house.lapse(9)
        before = house.things()
        house.hear(1, ("answer", 1, "value", ((1, 9), 17)))
        self.check_kept(house, before)
        self.assertEqual(before[0], ((0, 0), "thing", ((0, 0), None)))

    def test_marks_get_the_new_name_too(self):
        # Thing 0 goes to house 1 and comes back as thing 1; that one goes to house 2.
        for way in WAYS:
            house = house_with(way, 1)
            house.do(("move", 0, 1))
            house.hear(1, ("answer", 0, "value", pointer(way, 1, 9)))
            house.hear(1, ("build", 0, (None,)))
            house.do(("ask", 0, 0, 3))
            house.hear(1, ("answer", 1, "mark", pointer(way, 0, 1)))
            self.assertEqual(fields_of(house, 0), ("mark", ((0, 1),)))
            house.do(("move", 0, 2))
            house.hear(2, ("answer", 2, "value", pointer(way, 2, 4)))
            self.assertEqual(house.things(), (((0, 0), "mark", ((2, 4),)), ((0, 1), "mark", ((2, 4),))))
            self.assertEqual(house.hands()[0], (2, 4))
            house.hear(1, ("hand", 2, pointer(way, 0, 0)))
            self.assertEqual(house.hands()[2], (2, 4))


class PartLettersTest(unittest.TestCase):
    def test_what_parts_say_goes_to_the_part(self):
        house = house_with("lists", 1)
        house.hear(1, ("list", (0, 0), 2))
        self.assertEqual(house.part.told((0, 0)), ((2, 1),))
        self.assertEqual(house.mail.unowned(1), [("listed", (0, 0))])
        house.hear(2, ("let go", (0, 0), 1))
        self.assertEqual(house.part.told((0, 0)), ())
        to_hand(house, 1, 1, 7)
        house.do(("send", 1, 2, 0))
        house.hear(1, ("listed", (1, 7)))
        self.assertEqual(house.part.pinned(), ())

        house = house_with("weights", 1)
        house.do(("send", 0, 1, 0))
        house.hear(2, ("back", (0, 0), (1, 4)))
        self.assertEqual(house.part.out((0, 0)), (3, 4))

        house = house_with("leases", 1)
        house.lapse(2)
        house.hear(2, ("renew", (0, 0)))
        self.assertEqual(house.mail.unowned(2), [("lent", (0, 0), 10)])
        to_hand(house, 1, 1, 7)
        house.hear(1, ("lent", (1, 7), 30))
        self.assertEqual(house.part.lease((1, 7)), 30)
