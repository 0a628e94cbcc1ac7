import unittest

from heldafar.errors import (
    BadStep, FarError, IsHere, NoField, NoHouse, NoPacket, NoPicture, NoText, NoThing, NotHere, TooMany,
)

OF_A_TEXT = (NoText, NoThing, NoHouse, NoPacket, BadStep, NotHere, IsHere, NoField, TooMany)
ALL = (NoPicture,) + OF_A_TEXT


def made(kind):
    return kind(3, 7) if kind is NoPicture else kind("told so")


class ErrorsTest(unittest.TestCase):
    def test_there_are_ten(self):
        self.assertEqual(len(set(ALL)), 10)

    def test_each_is_caught_as_far_error_and_value_error(self):
        for kind in ALL:
            for caught in (kind, FarError, ValueError):
                with self.subTest(kind=kind, caught=caught):
                    with self.assertRaises(caught):
                        raise made(kind)

    def test_none_stands_under_another(self):
        for kind in ALL:
            for other in ALL:
                if kind is not other:
                    self.assertNotIsInstance(made(kind), other)

    def test_far_error_is_none_of_the_ten(self):
        self.assertTrue(issubclass(FarError, ValueError))
        for kind in ALL:
            self.assertNotIsInstance(FarError("told so"), kind)

    def test_values_of_no_picture(self):
        refusal = NoPicture(3, 7)
        self.assertEqual((refusal.house, refusal.number), (3, 7))
        refusal = NoPicture(-1, -1)
        self.assertEqual((refusal.house, refusal.number), (-1, -1))

    def test_the_others_are_made_of_a_text(self):
        for kind in OF_A_TEXT:
            self.assertEqual(str(kind("told so")), "told so")
