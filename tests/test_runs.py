"""The promises over the whole program, held against long runs of drawn steps."""

import random
import unittest
from fractions import Fraction

from heldafar.mail import mail_holds
from heldafar.pictures import look_at_picture
from heldafar.reasons import cut_for
from heldafar.texts import run_read, run_shown
from heldafar.world import World, run
from tests.helper import (WAYS, asks_told, do_gently, drawn_house_step, drawn_step, drawn_steps, house_state, picture,
                          slowly_come_to, steps_of_round, world_state)


def own_marks(told):
    """Hands and fields that have a mark of their own house."""
    sorts = {name: sort for hands, things in told[0] for name, sort, fields in things}
    return [name for home, (hands, things) in enumerate(told[0])
            for names in [hands] + [fields for name, sort, fields in things] for name in names
            if name is not None and name[0] == home and sorts[name] == "mark"]


def comes_round(told):
    """Whether who goes from mark to mark comes to one twice."""
    following = {name: fields[0] for hands, things in told[0] for name, sort, fields in things if sort == "mark"}
    for name in following:
        seen = set()
        while name in following:
            if name in seen:
                return True
            seen.add(name)
            name = following[name]
    return False


def weights_in(body):
    """Names and weights of a letter, those that go back too."""
    if body[0] == "back":
        return [body[1:]]
    pointers = {"hand": lambda: [body[2]], "ask": lambda: [body[2]], "tell": lambda: [body[2], body[4]],
                "answer": lambda: [body[3]], "build": lambda: body[2]}
    return [pointer for pointer in pointers.get(body[0], list)() if pointer is not None]


def undone(world, sender, to):
    """The bodies of letters that were written and aren't done."""
    bodies = world.houses[sender].mail.unowned(to)
    first = world.houses[sender].mail.written(to) - len(bodies)
    return bodies[world.houses[to].mail.done(sender) - first:]


def weights_together(world):
    """For each name the weights at all houses and in all letters that aren't done."""
    whole = {}
    numbers = range(len(world.houses))
    rows = [((home, number), house.part.weight((home, number))) for house in world.houses for home in numbers
            for number in range(100)]
    for sender in numbers:
        for to in numbers:
            if sender != to:
                rows += [row for body in undone(world, sender, to) for row in weights_in(body)]
    for name, weight in rows:
        whole[name] = whole.get(name, 0) + Fraction(*weight)
    return whole


class Letters:
    """All letters that packets ever told, and what each house heard of each other one."""

    def __init__(self, world):
        self.world = world
        self.bodies = {}

    def look(self, test):
        for packet in self.world.net.under_way():
            if packet[0] == "letter":
                test.assertEqual(self.bodies.setdefault(packet[1:4], packet[4]), packet[4])
        for house in self.world.houses:
            heard = {}
            for event in house.events():
                if event[0] == "heard":
                    heard.setdefault(event[1], []).append(event[2])
            for sender, numbers in heard.items():
                test.assertEqual(numbers, list(range(len(numbers))))
                test.assertEqual(house.mail.done(sender), len(numbers))
                written = [self.bodies[(sender, house.number, number)] for number in numbers]
                test.assertTrue(mail_holds(written + undone(self.world, sender, house.number), written))


class EveryStepTest(unittest.TestCase):
    def check_picture(self, world):
        told = world.picture()
        # Each name that a hand, a field or a letter has is that of a thing that stands.
        self.assertIsNone(look_at_picture(told))
        self.assertEqual(own_marks(told), [])
        self.assertFalse(comes_round(told))

    def check_weights(self, world):
        whole = weights_together(world)
        for house in world.houses:
            for number in range(100):
                name = (house.number, number)
                self.assertEqual(Fraction(*house.part.out(name)), whole.get(name, 0))

    def check_answers(self, world, before, step):
        """What asks were told stays, but for a fall."""
        after = [asks_told(house) for house in world.houses]
        for number, (old, new) in enumerate(zip(before, after)):
            if step != ("fall", number):
                self.assertTrue(all(was is None or was == now for was, now in zip(old, new)))
                self.assertLessEqual(len(old), len(new))
        return after

    def check_run(self, way, seed):
        many = (1, 2, 3, 3, 4, 8)[seed % 6]
        source, world = random.Random(seed), World(many, way)
        letters, answers = Letters(world), [[] for house in range(many)]
        words = set()
        for place in range(200):
            drawn = drawn_step(source, world)
            for step in steps_of_round(world) if drawn == ("round",) else [drawn]:
                do_gently(world, step)
                self.check_picture(world)
                letters.look(self)
                answers = self.check_answers(world, answers, step)
            if way == "weights" and place % 5 == 0:
                self.check_weights(world)
            words |= {answer[0] for house in answers for answer in house if answer is not None}
        return words

    def test_by_each_way(self):
        for way in WAYS:
            words = set()
            for seed in range(24):
                with self.subTest(way=way, seed=seed):
                    words |= self.check_run(way, seed)
            self.assertLessEqual({"value", "none", "done", "kept"}, words)

    def test_what_is_refused_changes_nothing(self):
        for way in WAYS:
            for seed in range(6):
                source, world = random.Random(seed), World(2 + seed % 2, way)
                refused = 0
                for place in range(120):
                    step = drawn_step(source, world)
                    before = world_state(world)
                    do_gently(world, step)
                    if world.told()[-1][0] == "refused":
                        refused += 1
                        self.assertEqual(world_state(world), before)
                self.assertGreater(refused, 2)

    def test_the_same_steps_tell_the_same(self):
        for way in WAYS:
            steps = drawn_steps(3, way, 200)
            first, second = run(3, way, steps), run(3, way, run_read(run_shown(steps)))
            self.assertEqual(world_state(first), world_state(second))
            self.assertEqual(first.told(), second.told())


class SameTest(unittest.TestCase):
    def drawn(self, source, world):
        many = len(world.houses)
        kind = source.random()
        if kind < 0.12:
            return ("round",)
        if kind < 0.16:
            return ("fall", source.randrange(many))
        house = source.randrange(many)
        step = ("sweep",)
        while step[0] in ("sweep", "picture", "free"):
            step = drawn_house_step(source, world.houses[house])
        return ("at", house, step)

    def test_lists_and_weights_tell_the_same(self):
        for seed in range(30):
            source = random.Random(seed)
            lists, weights = World(1 + seed % 4, "lists"), World(1 + seed % 4, "weights")
            for place in range(150):
                step = self.drawn(source, lists)
                for world in (lists, weights):
                    do_gently(world, step)
                self.assertEqual(lists.told(), weights.told())
            for here, there in zip(lists.houses, weights.houses):
                self.assertEqual(asks_told(here), asks_told(there))
                self.assertEqual((here.hands(), here.still()), (there.hands(), there.still()))


def in_rings(told):
    """The names to which a ring leads."""
    found = set()
    for hands, things in told[0]:
        for name, sort, fields in things:
            behind = slowly_come_to(told, [field for field in fields if field is not None])
            if name in behind:
                found |= behind
    return found


def standing(world):
    return {name for house in world.houses for name, sort, fields in house.things()}


class TakenUpTest(unittest.TestCase):
    def most_rounds(self, world):
        return (2 * len(standing(world)) + 8) * (10 if world.houses[0].way == "leases" else 1)

    def rounds_till_gone(self, world, names, most):
        rounds = 0
        while names & standing(world):
            self.assertLess(rounds, most)
            world.do(("round",))
            rounds += 1
        return rounds

    def cut_names(self, world):
        cut = cut_for(world.picture())
        return set() if cut is None else set(cut[1])

    def take_picture(self, world, house):
        number = world.do(("at", house, ("picture",)))[1]
        while number not in [taken[0] for taken in world.houses[house].taken()]:
            world.do(("round",))
        return number

    def test_what_no_ring_leads_to_goes_within_the_rounds(self):
        found = 0
        for way in WAYS:
            for seed in range(15):
                world = run(2 + seed % 3, way, drawn_steps(seed, way, 150, many=2 + seed % 3))
                names = self.cut_names(world) - in_rings(world.picture())
                found += len(names)
                self.rounds_till_gone(world, names, self.most_rounds(world))
        self.assertGreater(found, 60)

    def test_rings_go_when_they_are_freed(self):
        found = 0
        for way in WAYS:
            for seed in range(12):
                world = run(2 + seed % 3, way, drawn_steps(seed, way, 150, many=2 + seed % 3))
                names = self.cut_names(world)
                house = seed % 2
                number = self.take_picture(world, house)
                world.do(("at", house, ("free", number)))
                found += len(names & standing(world))
                self.rounds_till_gone(world, names, self.most_rounds(world))
                # What can still be come to stands.
                self.assertIsNone(look_at_picture(world.picture()))
        self.assertGreater(found, 10)

    def ring(self, way, many):
        """A ring through all houses, of a thing each; nobody holds any of them in the end."""
        world = World(many, way)
        for house in range(many):
            world.do(("at", house, ("make", 0, 1)))
        for house in range(many):
            world.do(("at", house, ("send", 0, (house + 1) % many, 1)))
        world.do(("round",))
        for house in range(many):
            world.do(("at", house, ("put", 0, 0, 1)))
            world.do(("at", house, ("drop", 1)))
        return world

    def test_a_ring_through_all_houses(self):
        for way in WAYS:
            for many in (2, 3, 8):
                world = self.ring(way, many)
                for house in range(1, many):
                    world.do(("at", house, ("drop", 0)))
                # House 0 still has its thing, and with it the ring.
                number = self.take_picture(world, many - 1)
                self.assertEqual(world.do(("at", many - 1, ("free", number))), ("freed", ()))
                for again in range(20):
                    world.do(("round",))
                self.assertEqual(len(standing(world)), many)
                world.do(("at", 0, ("drop", 0)))
                for again in range(40):
                    world.do(("round",))
                self.assertEqual(len(standing(world)), many)
                number = self.take_picture(world, many - 1)
                names = tuple((house, 0) for house in range(many))
                self.assertEqual(world.do(("at", many - 1, ("free", number))), ("freed", names))
                self.rounds_till_gone(world, set(names), self.most_rounds(world))

    def test_a_chain_through_all_houses(self):
        for way in WAYS:
            many, length = 3, 12
            world = World(many, way)
            # Each new thing has the name of the one before, which came by a letter.
            world.do(("at", 0, ("make", 0, 1)))
            for place in range(1, length):
                house, before = place % many, (place - 1) % many
                world.do(("at", before, ("send", 0, house, 1)))
                world.do(("round",))
                world.do(("at", before, ("drop", 0)))
                world.do(("at", house, ("make", 0, 1)))
                world.do(("at", house, ("put", 0, 0, 1)))
                world.do(("at", house, ("drop", 1)))
            for again in range(30):
                world.do(("round",))
            self.assertEqual(len(standing(world)), length)
            world.do(("at", (length - 1) % many, ("drop", 0)))
            self.rounds_till_gone(world, standing(world), self.most_rounds(world))

    def test_a_moved_thing_and_its_mark(self):
        for way in WAYS:
            world = run(3, way, [
                ("at", 0, ("make", 0, 1)), ("at", 0, ("send", 0, 2, 3)), ("round",), ("at", 0, ("move", 0, 1)),
                ("round",)])
            self.assertEqual(world.houses[0].told(0), ("value", (1, 0)))
            self.assertEqual(standing(world), {(0, 0), (1, 0)})
            world.do(("at", 2, ("tell", 3, 0, 3)))
            for again in range(4):
                world.do(("round",))
            # House 2 was told of the mark, and tells the new thing its own old name: that is the new one now.
            self.assertEqual(world.houses[2].told(0), ("done",))
            self.assertEqual(world.houses[2].hands()[3], (1, 0))
            self.assertEqual(world.houses[1].things(), (((1, 0), "thing", ((1, 0),)),))
            names = {(0, 0)}
            self.rounds_till_gone(world, names, self.most_rounds(world))
            self.assertEqual(standing(world), {(1, 0)})


class HelperTest(unittest.TestCase):
    def test_what_comes_round(self):
        mark = ((0, 0), "mark", ((1, 0),))
        there = ((1, 0), "mark", ((0, 0),))
        self.assertTrue(comes_round(picture(((None,) * 4, (mark,)), ((None,) * 4, (there,)))))
        self.assertEqual(own_marks(picture((((0, 0),) + (None,) * 3, (mark,)))), [(0, 0)])

    def test_drawn_runs_are_alive(self):
        steps = drawn_steps(1, "lists", 400)
        world = run(3, "lists", steps)
        words = {step[2][0] for step in steps if step[0] == "at"}
        self.assertEqual(len(words), 12)
        self.assertEqual({step[0] for step in steps},
                         {"at", "save", "fall", "come", "double", "lose", "tick", "round"})
        refused = [answer for answer in world.told() if answer[0] == "refused"]
        self.assertLess(len(refused), 200)
        self.assertEqual(len(house_state(world.houses[0])), 9)
