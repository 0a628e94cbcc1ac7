"""What Trial, Marks and Track have in common."""

import copy
import time
import unittest

from heldafar.errors import NoThing
from heldafar.marks import Marks
from heldafar.papers import pointed_holds
from heldafar.ringways import RingWay
from heldafar.track import Track
from heldafar.trial import Trial
from tests.helper import (
    NO_THINGS, all_names, chain, ladder, lets_by, mark, one_house, part, picture, random_picture, ring, slowly_reached,
    thing,
)

WAYS = (Trial, Marks, Track)
EMPTY = picture(*[part() for home in range(8)])
MIXED = picture(
    part([thing(0, 0, (0, 0), None), mark(0, 1, (1, 0)), thing(0, 2)], [(0, 2)]),
    part([mark(1, 0, (0, 1)), thing(1, 3, (0, 2), (1, 3)), mark(1, 4)]),
    letters=[(0, 1, ((1, 3), (0, 2)))],
)


class ThreeWaysTest(unittest.TestCase):
    def check_all(self, told):
        """Each thing's paper is let by and told again, and verdicts go by them."""
        before = copy.deepcopy(told)
        for kind in WAYS:
            way = kind(told)
            papers = {name: way.seek(name) for name in all_names(told)}
            for name, paper in papers.items():
                self.assertTrue(lets_by(told, paper), (kind, name, paper))
                self.assertTrue(paper[1] == name if paper[0] != "cut" else name in paper[1])
                self.assertEqual(way.seek(name), paper)
                self.assertEqual(kind(told).seek(name), paper)
            self.assertEqual(way.verdicts(), [(name, papers[name][0]) for name in sorted(papers)])
        self.assertEqual(told, before)

    def test_each_stands_on_the_base(self):
        for kind in WAYS:
            self.assertTrue(issubclass(kind, RingWay))
            self.assertIsInstance(kind(EMPTY), RingWay)

    def test_no_things(self):
        for told in (one_house(), EMPTY):
            for kind in WAYS:
                self.assertEqual(kind(told).verdicts(), [])
                with self.assertRaises(NoThing):
                    kind(told).seek((0, 0))

    def test_no_thing(self):
        for told in (one_house(thing(0, 0), hands=[(0, 0)]), one_house(thing(0, 0, (0, 0)))):
            for kind in WAYS:
                way = kind(told)
                before = way.verdicts()
                for name in NO_THINGS:
                    with self.assertRaises(NoThing):
                        way.seek(name)
                self.assertEqual(way.verdicts(), before)
        for kind in WAYS:
            with self.assertRaises(NoThing):
                kind(MIXED).seek((1, 2))

    def test_verdicts(self):
        expected = {
            Trial: ["cut", "cut", "pointed", "cut", "pointed", "cut"],
            Marks: ["cut", "cut", "wanted", "cut", "wanted", "cut"],
            Track: ["cut", "cut", "wanted", "cut", "wanted", "cut"],
        }
        for kind in WAYS:
            self.assertEqual(kind(MIXED).verdicts(), list(zip(all_names(MIXED), expected[kind])))

    def test_verdicts_are_built_anew(self):
        for kind in WAYS:
            way = kind(MIXED)
            first = way.verdicts()
            kept = list(first)
            first.reverse()
            first.append(((0, 0), "other"))
            self.assertEqual(way.verdicts(), kept)

    def test_papers(self):
        self.check_all(MIXED)
        self.check_all(one_house(thing(0, 0, (0, 0))))
        self.check_all(one_house(thing(0, 0, (0, 0)), hands=[None, (0, 0)]))
        for many in (1, 2, 8):
            self.check_all(ring(many, 16))
        self.check_all(ladder(3)[0])

    def test_papers_of_many_pictures(self):
        for seed in range(400):
            self.check_all(random_picture(seed))

    def test_rings_are_cut_whole(self):
        for many in (1, 3, 8):
            told = ring(many, 24)
            for kind in WAYS:
                for name in all_names(told):
                    self.assertEqual(kind(told).seek(name), ("cut", tuple(all_names(told)), ()))

    def test_what_wanted_and_cut_tell_of(self):
        for seed in range(400):
            told = random_picture(seed)
            found = slowly_reached(told)
            for name in all_names(told):
                word = "wanted" if name in found else "cut"
                self.assertEqual(Marks(told).seek(name)[0], word)
                self.assertEqual(Track(told).seek(name)[0], word)
                paper = Trial(told).seek(name)
                if name in found:
                    self.assertEqual(paper[0], "pointed")
                if paper[0] == "cut":
                    self.assertFalse(set(paper[1]) & set(found))

    def test_long_chains(self):
        told, names = chain()
        let_go = (tuple((part()[0], things) for hands, things in told[0]), told[1])
        began = time.monotonic()
        for kind in WAYS:
            word = "pointed" if kind == Trial else "wanted"
            self.assertEqual(kind(told).verdicts(), [(name, word) for name in sorted(names)])
            self.assertTrue(lets_by(told, kind(told).seek(names[-1])))
            verdicts = dict(kind(let_go).verdicts())
            self.assertEqual(verdicts[names[0]], "cut")
            # Something outside of what can be come to from it points to each but the first one.
            self.assertEqual(verdicts[names[-1]], "pointed" if kind == Trial else "cut")
            self.assertTrue(lets_by(let_go, kind(let_go).seek(names[-1])))
        self.assertLess(time.monotonic() - began, 20)

    def test_many_ways_to_a_thing(self):
        told, last = ladder(160)
        began = time.monotonic()
        for kind in WAYS:
            self.assertTrue(lets_by(told, kind(told).seek(last[0])))
        self.assertTrue(pointed_holds(told, Trial(told).seek((0, 0))))
        self.assertLess(time.monotonic() - began, 10)
