import unittest

from heldafar.marks import Marks
from heldafar.reasons import cut_for, wanted_for
from tests.helper import (
    all_names, chain, held, mark, one_house, part, picture, random_picture, slowly_reached, thing,
)


def slowly_rounds(told):
    """The words of the document: each house goes on within its own things, all over again in each round."""
    houses, letters = told
    fields = {name: row for hands, things in houses for name, sort, row in things}
    has = [{name for name in hands if name is not None} for hands, things in houses]
    for sender, to, names in letters:
        has[to] |= set(names)
    sent_before = set()
    told_rounds = []
    while True:
        for house, names in enumerate(has):
            for again in range(len(fields) + 1):
                for name in [name for name in names if name[0] == house]:
                    names |= {field for field in fields[name] if field is not None}
        sent = {(house, name[0], name) for house, names in enumerate(has) for name in names if name[0] != house}
        if sent == sent_before:
            return told_rounds
        told_rounds.append(sorted(sent - sent_before))
        for sender, to, name in sent - sent_before:
            has[to].add(name)
        sent_before = sent


class MarksTest(unittest.TestCase):
    def test_seek(self):
        for seed in range(200):
            told = random_picture(seed)
            for name in all_names(told):
                self.assertEqual(Marks(told).seek(name), wanted_for(told, name) or cut_for(told))

    def test_no_marks(self):
        for told in (one_house(), one_house(thing(0, 0, (0, 0)), hands=[(0, 0)]), picture(part(), part())):
            self.assertEqual(Marks(told).rounds(), [])
        # Nothing can be come to, though fields lead to other houses.
        told = picture(part([thing(0, 0, (1, 0))]), part([mark(1, 0, (0, 0))]))
        self.assertEqual(Marks(told).rounds(), [])
        told = picture(part([thing(0, 0)], [(0, 0)]), part([thing(1, 0)]), letters=[(0, 1, ((1, 0),))])
        self.assertEqual(Marks(told).rounds(), [])

    def test_by_hands_and_by_letters_to_the_house(self):
        told = picture(part([thing(0, 0), thing(0, 1)], still=[(1, 1)]), part([thing(1, 0), thing(1, 1)], [(0, 0)]),
                       part(), letters=[(0, 2, ((1, 0), (0, 1)))])
        self.assertEqual(Marks(told).rounds(), [[(0, 1, (1, 1)), (1, 0, (0, 0)), (2, 0, (0, 1)), (2, 1, (1, 0))]])

    def test_a_letter_counts_where_it_goes(self):
        told = picture(part([thing(0, 0)]), part(), letters=[(0, 1, ((0, 0),))])
        self.assertEqual(Marks(told).rounds(), [[(1, 0, (0, 0))]])
        told = picture(part([thing(0, 0)]), part(), letters=[(1, 0, ((0, 0),))])
        self.assertEqual(Marks(told).rounds(), [])

    def test_a_house_goes_on_within_its_own_things(self):
        told = picture(
            part([thing(0, 0, (0, 1)), mark(0, 1, (0, 2)), thing(0, 2, (1, 0), (0, 0), None, (1, 1))], [(0, 0)]),
            part([thing(1, 0, (0, 3)), thing(1, 1)]),
        )
        told = (((told[0][0][0], told[0][0][1] + (thing(0, 3),)), told[0][1]), ())
        self.assertEqual(Marks(told).rounds(), [[(0, 1, (1, 0)), (0, 1, (1, 1))], [(1, 0, (0, 3))]])

    def test_each_house_sends_a_name_once(self):
        # Both fields and a hand of house 0 have (1, 0), and house 2 has it as well.
        told = picture(part([thing(0, 0, (1, 0), (1, 0))], [(0, 0), (1, 0)]), part([thing(1, 0, (0, 0), (2, 0))]),
                       part([thing(2, 0, (1, 0))], [None, (1, 0)]))
        self.assertEqual(Marks(told).rounds(), [
            [(0, 1, (1, 0)), (2, 1, (1, 0))],
            [(1, 0, (0, 0)), (1, 2, (2, 0))],
        ])

    def test_back_to_a_house_that_has_sent_before(self):
        told = picture(
            part([thing(0, 0, (1, 0)), thing(0, 1, (1, 0), (2, 0))], [(0, 0)]),
            part([thing(1, 0, (0, 1)), thing(1, 9)]),
            part([mark(2, 0, (1, 9))]),
        )
        self.assertEqual(Marks(told).rounds(), [
            [(0, 1, (1, 0))], [(1, 0, (0, 1))], [(0, 2, (2, 0))], [(2, 1, (1, 9))],
        ])

    def test_the_chain(self):
        told, names = chain()
        self.assertEqual(Marks(told).rounds(), [[(low[0], high[0], high)] for low, high in zip(names, names[1:])])

    def test_rounds_are_built_anew(self):
        told = picture(part(hands=[(1, 0)]), part([thing(1, 0)]))
        way = Marks(told)
        first = way.rounds()
        first[0].append(None)
        first.append([])
        self.assertEqual(way.rounds(), [[(0, 1, (1, 0))]])

    def test_many_pictures(self):
        longest = 0
        for seed in range(400):
            told = random_picture(seed)
            rounds = Marks(told).rounds()
            self.assertEqual(rounds, slowly_rounds(told))
            longest = max(longest, len(rounds))
            # What is marked, and what a house has at once, leads to all that can be come to.
            marked = {name for sent in rounds for sender, to, name in sent}
            self.assertLessEqual(marked | held(told), set(slowly_reached(told)))
        self.assertGreater(longest, 2)
