import unittest

from heldafar.asking import Ask, Asks, answer_of
from heldafar.errors import NoThing
from tests.helper import NO_NUMBERS


class AnswerTest(unittest.TestCase):
    def test_what_a_home_answers(self):
        fields = ((1, 2), None)
        for entry, field, answer in (
                (("thing", fields), 0, ("value", (1, 2))), (("thing", fields), 1, ("value", None)),
                (("thing", fields), 2, ("none", None)), (("thing", ()), 0, ("none", None)),
                (("mark", ((2, 0),)), 0, ("mark", (2, 0))), (("mark", ((2, 0),)), 3, ("mark", (2, 0))),
                (("mark", (None,)), 0, ("gone", None)), (None, 0, ("gone", None))):
            self.assertEqual(answer_of(entry, field), answer)


class AsksTest(unittest.TestCase):
    def test_numbers(self):
        asks = Asks()
        self.assertEqual([asks.begin(Ask(word, (1, 0), 0, None)) for word in ("ask", "tell", "move")], [0, 1, 2])
        self.assertEqual(asks.waits(1).word, "tell")
        asks.finish(1, ("done",))
        self.assertIsNone(asks.waits(1))
        self.assertEqual([asks.answer_to(number) for number in range(3)], [None, ("done",), None])
        self.assertEqual(asks.begin(Ask("ask", (1, 0), 0, 2)), 3)
        self.assertIsNone(asks.waits(4))

    def test_numbers_that_were_not_told(self):
        asks = Asks()
        asks.begin(Ask("ask", (1, 0), 0, 2))
        for number in (-1, 1, 10 ** 5000) + NO_NUMBERS:
            with self.assertRaises(NoThing):
                asks.answer_to(number)

    def some_asks(self):
        asks = Asks()
        for ask in (Ask("tell", (1, 0), 0, (2, 5)), Ask("ask", (2, 5), 1, 3), Ask("tell", (2, 5), 1, (0, 1)),
                    Ask("tell", (2, 5), 1, None), Ask("move", (0, 1), 0, ((2, 5),)), Ask("tell", (1, 1), 1, (2, 5))):
            asks.begin(ask)
        return asks

    def test_still_told(self):
        asks = self.some_asks()
        self.assertEqual(asks.still_told(), ((2, 5), (0, 1), (2, 5)))
        self.assertEqual(len(asks.tells()), 4)
        asks.finish(0, ("none",))
        self.assertEqual(asks.still_told(), ((0, 1), (2, 5)))
        asks.exchange((2, 5), None)
        self.assertEqual((asks.still_told(), len(asks.tells())), (((0, 1),), 3))

    def test_exchange(self):
        asks = self.some_asks()
        asks.exchange((2, 5), (1, 9))
        self.assertEqual(asks.still_told(), ((1, 9), (0, 1), (1, 9)))
        self.assertEqual([asks.waits(number).asked for number in range(6)],
                         [(1, 0), (2, 5), (2, 5), (2, 5), (0, 1), (1, 1)])
        self.assertEqual(asks.waits(4).given, ((2, 5),))

    def test_copied(self):
        for ways in ((0, 1), (1, 0)):
            asks = self.some_asks()
            pair = [asks, asks.copied()]
            here, there = [pair[place] for place in ways]
            here.exchange((2, 5), (1, 9))
            here.waits(1).asked = (3, 3)
            here.finish(2, ("done",))
            here.begin(Ask("tell", (1, 1), 1, (2, 6)))
            self.assertEqual(there.still_told(), ((2, 5), (0, 1), (2, 5)))
            self.assertEqual(there.waits(1).asked, (2, 5))
            self.assertIsNone(there.answer_to(2))
            self.assertEqual(there.begin(Ask("tell", (1, 1), 1, (2, 7))), 6)
            self.assertEqual(here.still_told(), ((1, 9), (1, 9), (2, 6)))
