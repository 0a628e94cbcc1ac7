import time
import unittest

from heldafar.errors import NoPacket, TooMany
from heldafar.net import Net
from tests.helper import NO_NUMBERS

HUGE = 10 ** 5000
MOST = 20000


def packet(number):
    return ("owned", 0, 1, number)


def packets(many, first=0):
    return [packet(number) for number in range(first, first + many)]


def filled(many):
    net = Net()
    net.put(packets(many))
    return net


class NetTest(unittest.TestCase):
    def test_put(self):
        net = Net()
        self.assertEqual(net.under_way(), [])
        net.put([])
        self.assertEqual(net.under_way(), [])
        net.put([packet(5)])
        handed = [packet(3), packet(9), packet(3)]
        net.put(handed)
        self.assertEqual(net.under_way(), [packet(5), packet(3), packet(9), packet(3)])
        self.assertEqual(handed, [packet(3), packet(9), packet(3)])
        handed.append(packet(0))
        self.assertEqual(len(net.under_way()), 4)

    def test_put_what_is_under_way_once_more(self):
        net = filled(2)
        net.put(net.under_way())
        self.assertEqual(net.under_way(), packets(2) + packets(2))

    def test_under_way_is_built_anew(self):
        net = filled(2)
        net.under_way().clear()
        self.assertEqual(net.under_way(), packets(2))

    def test_come(self):
        for place in range(4):
            net = filled(4)
            self.assertEqual(net.come(place), packet(place))
            self.assertEqual(net.under_way(), [packet(number) for number in range(4) if number != place])
        net = filled(1)
        self.assertEqual(net.come(0), packet(0))
        self.assertEqual(net.under_way(), [])

    def test_double(self):
        for place in range(4):
            net = filled(4)
            net.double(place)
            self.assertEqual(net.under_way(), packets(4) + [packet(place)])
            net.double(4)
            self.assertEqual(net.under_way(), packets(4) + [packet(place), packet(place)])

    def test_lose(self):
        for place in range(4):
            net = filled(4)
            net.lose(place)
            self.assertEqual(net.under_way(), [packet(number) for number in range(4) if number != place])

    def test_a_place_that_is_not_there(self):
        for many in (0, 1, 3, MOST):
            net = filled(many)
            for place in (-1, many, many + 1, HUGE, -HUGE) + NO_NUMBERS:
                for ask in (net.come, net.double, net.lose):
                    with self.assertRaises(NoPacket):
                        ask(place)
            self.assertEqual(net.under_way(), packets(many))

    def test_too_many(self):
        net = filled(MOST - 2)
        with self.assertRaises(TooMany):
            net.put(packets(3))
        self.assertEqual(net.under_way(), packets(MOST - 2))
        net.put(packets(1))
        net.double(0)
        net.put([])
        expected = packets(MOST - 2) + [packet(0), packet(0)]
        self.assertEqual(net.under_way(), expected)
        for place in (0, 7, MOST - 1):
            with self.assertRaises(TooMany):
                net.double(place)
        with self.assertRaises(TooMany):
            net.put(packets(1))
        self.assertEqual(net.under_way(), expected)
        net.lose(MOST - 1)
        net.double(1)
        self.assertEqual(net.under_way(), expected[:-1] + [packet(1)])

    def test_at_once(self):
        net = Net()
        with self.assertRaises(TooMany):
            net.put(packets(MOST + 1))
        self.assertEqual(net.under_way(), [])
        net.put(packets(MOST))
        self.assertEqual(len(net.under_way()), MOST)

    def test_copied(self):
        for ways in ((0, 1), (1, 0)):
            net = filled(3)
            pair = [net, net.copied()]
            here, there = [pair[place] for place in ways]
            self.assertIsInstance(there, Net)
            here.put([packet(8)])
            here.double(1)
            here.lose(0)
            here.come(0)
            self.assertEqual(there.under_way(), packets(3))
            self.assertEqual(here.under_way(), [packet(2), packet(8), packet(1)])

    def test_quickly(self):
        began = time.monotonic()
        net = Net()
        for number in range(MOST):
            net.put([packet(number)])
        for number in range(MOST):
            self.assertEqual(net.come(0), packet(number))
        net.put(packets(MOST))
        for number in range(MOST):
            net.lose(MOST - 1 - number)
        self.assertEqual(net.copied().under_way(), [])
        self.assertLess(time.monotonic() - began, 10)
