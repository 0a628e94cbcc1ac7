import unittest

from heldafar.leasepart import LeasePart
from heldafar.letters import names_in, pointers_in
from heldafar.listpart import ListPart
from heldafar.weightpart import WeightPart

FIRST = ((0, 1), 4)
SECOND = ((2, 7), 5)
POINT_TO_NOTHING = (
    ("list", (0, 1), 2), ("listed", (0, 1)), ("let go", (0, 1), 3), ("back", (0, 1), (1, 2)), ("renew", (0, 1)),
    ("lent", (0, 1), 8), ("free", ((0, 1), (0, 2))), ("picture", 0, 1),
    ("part", 0, 1, (((0, 1), None, None, None), ()), ((1, 2, ((0, 1),)),), 3),
)


class PointersTest(unittest.TestCase):
    def test_each_letter(self):
        for body, pointers in (
                (("hand", 3, FIRST), (FIRST,)), (("hand", 3, None), (None,)), (("ask", 0, FIRST, 1), (FIRST,)),
                (("tell", 0, FIRST, 1, SECOND), (FIRST, SECOND)), (("tell", 0, FIRST, 1, None), (FIRST, None)),
                (("answer", 0, "value", FIRST), (FIRST,)), (("answer", 0, "none", None), (None,)),
                (("answer", 0, "mark", SECOND), (SECOND,)), (("build", 0, ()), ()),
                (("build", 0, (SECOND, None, FIRST)), (SECOND, None, FIRST))):
            self.assertEqual(pointers_in(body), pointers)
        for body in POINT_TO_NOTHING:
            self.assertEqual(pointers_in(body), ())


class NamesTest(unittest.TestCase):
    def test_in_their_order(self):
        for part in (ListPart(1), WeightPart(1), LeasePart(1)):
            self.assertEqual(names_in(("build", 0, (SECOND, None, FIRST, SECOND)), part), ((2, 7), (0, 1), (2, 7)))
            self.assertEqual(names_in(("tell", 0, SECOND, 1, FIRST), part), ((2, 7), (0, 1)))
            self.assertEqual(names_in(("hand", 3, None), part), ())
            for body in POINT_TO_NOTHING:
                self.assertEqual(names_in(body, part), ())

    def test_lapsed_ones_are_left_out(self):
        for part, names in ((ListPart(1), ((0, 1), (2, 7))), (LeasePart(1), ((2, 7),))):
            part.lapse(5)
            self.assertEqual(names_in(("build", 0, (FIRST, SECOND)), part), names)
        part.lapse(6)
        self.assertEqual(names_in(("build", 0, (FIRST, SECOND)), part), ())
