import unittest

from heldafar.parts import Part


class PartTest(unittest.TestCase):
    def check_knows_nothing(self, part):
        for name in ((0, 0), (1, 0), (2, 99)):
            for to in (0, 2):
                self.assertEqual(part.hand_on(name, to), (0, []))
            self.assertIsNone(part.got(name, 7))
            self.assertIs(part.is_held(name), False)
            self.assertIs(part.knows(name), False)
            self.assertEqual(part.take(2, ("list", name, 0)), [])
            self.assertEqual(part.take(2, ("back", name, (1, 2))), [])
            self.assertEqual(part.take(2, ("renew", name)), [])
        self.assertEqual(part.pinned(), ())
        self.assertEqual(part.let_go(()), [])
        self.assertEqual(part.let_go(((0, 0), (2, 99))), [])
        self.assertEqual(part.lapse(0), ())
        self.assertEqual(part.lapse(9), ())

    def test_it_knows_nothing(self):
        part = Part(1)
        # What was got, handed on or taken changes nothing of that.
        for again in range(2):
            self.check_knows_nothing(part)

    def test_copied(self):
        part = Part(1)
        other = part.copied()
        self.assertIsInstance(other, Part)
        self.assertIsNot(other, part)
        self.check_knows_nothing(other)
        self.check_knows_nothing(part)

    def test_lists_are_built_anew(self):
        part = Part(1)
        for ask in (lambda: part.hand_on((0, 0), 2)[1], lambda: part.let_go(()),
                    lambda: part.take(0, ("listed", (0, 0)))):
            ask().append("x")
            self.assertEqual(ask(), [])
