"""Steps and letters drawn for one house, the letters with whatever names and numbers may be handed in."""

import random
import unittest

from heldafar.errors import FarError
from heldafar.house import House
from tests.helper import WAYS, asks_told, drawn_house_step, house_state

LAST_LEASE = 30


class Drawn:
    """Letters to a house, house 0, of all the forms; its own names in pointers are those of things that stand."""

    def __init__(self, seed, way):
        self.source = random.Random(seed)
        self.house = House(0, self.source.choice([2, 3, 4]), way)

    def extra(self):
        choices = {"lists": (0, 1, 5, 10 ** 20), "weights": ((1, 1), (1, 2), (3, 4), (1, 3)),
                   "leases": range(LAST_LEASE)}
        return self.source.choice(choices[self.house.way])

    def name(self):
        return (self.source.randrange(self.house.many), self.source.choice((0, 1, 2, 3, 99)))

    def pointer(self):
        name = self.name()
        if name[0] == 0:
            name = self.source.choice([name for name, sort, fields in self.house.things()] + [None])
        return None if name is None else (name, self.extra())

    def asked(self):
        return ((0, self.source.randrange(8)), self.extra())

    def part_body(self):
        """What the part of another house said."""
        name = self.name()
        bodies = {
            "lists": [("list", name, self.source.randrange(self.house.many)), ("listed", name),
                      ("let go", name, self.source.randrange(4))],
            "weights": [("back", name, self.extra())],
            "leases": [("renew", name), ("lent", name, self.extra())],
        }
        return self.source.choice(bodies[self.house.way])

    def answer(self):
        word = self.source.choice(["value", "none", "mark", "gone", "done"])
        return ("answer", self.source.randrange(8), word, self.pointer() if word in ("value", "mark") else None)

    def picture_body(self):
        number, name = self.source.randrange(4), self.name()
        told = ((name, None, None, None), (((1, 3), "thing", (name,)),))
        return self.source.choice([("picture", self.source.randrange(self.house.many), number),
                                   ("part", 0, number, told, ((1, 0, (name,)),), self.source.randrange(9))])

    def body(self):
        ask, field = self.source.randrange(5), self.source.randrange(4)
        word = self.source.choice(["hand", "ask", "tell", "build", "answer", "answer", "free", "picture", "part"])
        bodies = {
            "hand": lambda: ("hand", field, self.pointer()), "ask": lambda: ("ask", ask, self.asked(), field),
            "tell": lambda: ("tell", ask, self.asked(), field, self.pointer()),
            "build": lambda: ("build", ask, tuple(self.pointer() for place in range(field + ask % 2))),
            "answer": self.answer, "free": lambda: ("free", tuple(sorted({self.name(), self.name()}))),
            "picture": self.picture_body, "part": self.part_body,
        }
        return bodies[word]()


class DrawnTest(unittest.TestCase):
    def check_names(self, house):
        """Each own name in a hand or a field is that of a thing that stands, and of no mark; others' are known."""
        things = [name for name, sort, fields in house.things() if sort == "thing"]
        for row in [house.hands(), house.still()] + [fields for name, sort, fields in house.things()]:
            for name in row:
                if name is not None:
                    self.assertTrue(name in things if name[0] == 0 else house.part.knows(name), name)

    def check_answers(self, before, after):
        self.assertTrue(all(was is None or was == now for was, now in zip(before, after)))

    def do_step(self, drawn):
        house = drawn.house
        before = house_state(house) if drawn.source.random() < 0.05 else None
        try:
            house.do(drawn_house_step(drawn.source, house))
        except FarError:
            if before is not None:
                self.assertEqual(house_state(house), before)

    def check_run(self, seed, way):
        drawn, now = Drawn(seed, way), 0
        house, answers = drawn.house, []
        for place in range(80):
            kind = drawn.source.random()
            if kind < 0.45:
                house.hear(drawn.source.randrange(1, house.many), drawn.body())
            elif kind < 0.9:
                self.do_step(drawn)
            else:
                now += drawn.source.randrange(3)
                house.lapse(now)
            self.check_names(house)
            self.check_answers(answers, asks_told(house))
            answers = asks_told(house)

    def test_by_each_way(self):
        for way in WAYS:
            for seed in range(150):
                with self.subTest(way=way, seed=seed):
                    self.check_run(seed, way)
