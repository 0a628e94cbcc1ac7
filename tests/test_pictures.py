import copy
import unittest
from unittest import mock

from heldafar.errors import NoPicture
from heldafar.pictures import look_at_picture
from tests.helper import NO_HANDS, chain, ladder, mark, one_house, part, picture, random_picture, thing

TWO = [part([thing(0, 0)]), part([thing(1, 0)])]


def with_letters(*letters):
    return picture(*TWO, letters=letters)


class LookTest(unittest.TestCase):
    def refused(self, told, house=-1, number=-1):
        with self.assertRaises(NoPicture) as caught:
            look_at_picture(told)
        self.assertEqual((caught.exception.house, caught.exception.number), (house, number))

    def let_by(self, told):
        before = copy.deepcopy(told)
        self.assertIsNone(look_at_picture(told))
        self.assertEqual(told, before)


class LetByTest(LookTest):
    def test_one_house_and_eight(self):
        self.let_by(one_house())
        self.let_by(picture(*[part() for home in range(8)]))
        self.let_by(picture(*[part([thing(home, 99, (7 - home, 99))]) for home in range(8)]))

    def test_no_things_and_forty(self):
        self.let_by(one_house(hands=NO_HANDS))
        self.let_by(one_house(*[thing(0, number) for number in range(40)]))
        self.let_by(one_house(*[thing(0, number) for number in range(60, 100)]))
        self.let_by(chain()[0])
        self.let_by(ladder(160)[0])

    def test_no_to_four_fields(self):
        for many in range(5):
            self.let_by(one_house(thing(0, 5, *[(0, 5)] * many)))
            self.let_by(one_house(thing(0, 5, *[None] * many)))

    def test_marks(self):
        self.let_by(one_house(mark(0, 1)))
        self.let_by(one_house(mark(0, 1, (0, 2)), thing(0, 2)))
        self.let_by(one_house(mark(0, 1, (0, 1))))

    def test_names_behind_the_hands(self):
        for many in range(7):
            self.let_by(picture(part([thing(0, 0)], still=[(0, 0)] * many)))
            self.let_by(picture(part([thing(0, 0)], [(0, 0)] * 4, [(0, 0)] * many)))

    def test_letters(self):
        self.let_by(with_letters((0, 1, ((0, 0),))))
        self.let_by(with_letters((1, 0, ((0, 0), (1, 0), (0, 0))), (0, 1, ((1, 0),)), (1, 0, ((1, 0),))))
        self.let_by(with_letters((1, 0, ((0, 0),) * 50)))

    def test_random_ones(self):
        for seed in range(200):
            self.let_by(random_picture(seed))


class FormTest(LookTest):
    def test_no_picture_at_all(self):
        for told in (None, True, 0, -3, "", "picture", b"ab", [], {}, set(), object(), (), look_at_picture,
                     ((),), ((), (), ()), ([], []), {"houses": ()}):
            self.refused(told)

    def test_parts_too_few_or_too_many(self):
        self.refused((TWO[0],))
        self.refused(((part(),),))
        self.refused(((part(),), (), ()))
        self.refused((((NO_HANDS,),), ()))
        self.refused((((NO_HANDS, (), ()),), ()))
        self.refused((((),), ()))

    def test_lists_and_others_for_tuples(self):
        for other in ([], None, {}, set(), "", 0, False):
            self.refused((other, ()))
            self.refused(((part(),), other))
            self.refused(((other,), ()))
            self.refused((((other, ()),), ()))
            self.refused((((NO_HANDS, other),), ()))
            self.refused(one_house(other))
            self.refused(one_house(((0, 0), "thing", other)))
            self.refused(with_letters(other))
            self.refused(with_letters((0, 1, other)))
        self.refused([(part(),), ()])
        self.refused(([part()], ()))
        self.refused(((list(part()),), ()))
        self.refused(((([None] * 4, ()),), ()))
        self.refused(one_house([(0, 0), "thing", ()]))
        self.refused(one_house(((0, 0), "thing", [None])))
        self.refused((tuple(TWO), [(0, 1, ((0, 0),))]))
        self.refused(with_letters([0, 1, ((0, 0),)]))
        self.refused(with_letters((0, 1, [(0, 0)])))

    def test_many_houses(self):
        self.refused(((), ()))
        self.refused(picture(*[part() for home in range(9)]))

    def test_hands(self):
        for many in range(4):
            self.refused((((NO_HANDS[:many], ()),), ()))
        self.refused(picture(part([thing(0, 0)], still=[(0, 0)] * 7)))
        self.refused(picture(part([thing(0, 0)], [(0, 0)] * 4, [(0, 0)] * 7)))

    def test_none_behind_the_hands(self):
        self.refused(picture(part(still=[None])))
        self.refused(picture(part([thing(0, 0)], still=[(0, 0), None])))
        self.refused(picture(part([thing(0, 0)], still=[None, (0, 0)])))

    def test_names_that_are_none(self):
        for name in ([0, 0], (0,), (0, 0, 0), (1, 0), (-1, 0), (8, 0), (0, 100), (0, -1), (True, 0), (False, 0),
                     (0, True), (0, False), ("0", 0), (0, "0"), (0, None), (None, None), (), 0, True, "0:0",
                     {}, ([], 0), (0, []), ((0, 0), 0), b"ab"):
            with self.subTest(name=name):
                own = [thing(0, 0), thing(0, 1)]
                for place in range(4):
                    self.refused(picture(part(own, NO_HANDS[:place] + (name,))))
                for place in range(6):
                    self.refused(picture(part(own, still=[(0, 0)] * place + [name])))
                for place in range(4):
                    self.refused(one_house(thing(0, 0, *[None] * place, name)))
                self.refused(one_house(mark(0, 0, name)))
                self.refused(one_house((name, "thing", ())))
                self.refused(one_house((name, "mark", (None,))))

    def test_names_that_are_none_in_a_letter(self):
        for name in ([0, 0], (0,), (0, 0, 0), (2, 0), (-1, 0), (0, 100), (0, -1), (True, 0), (0, False), None):
            self.refused(with_letters((0, 1, (name,))))
            self.refused(with_letters((0, 1, ((0, 0), name))))

    def test_a_thing_without_a_name(self):
        self.refused(one_house((None, "thing", ())))
        self.refused(one_house(("thing", ())))
        self.refused(one_house(((0, 0), "thing")))
        self.refused(one_house(((0, 0), "thing", (), ())))

    def test_sorts(self):
        for sort in ("", "Thing", "MARK", "things", "hand", None, 0, True, [], {}, ("thing",), b"thing", b"mark"):
            self.refused(one_house(((0, 0), sort, (None,))))

    def test_what_is_equal_to_everything(self):
        self.refused(one_house(((0, 0), mock.ANY, (None,))))
        self.refused(one_house(((0, 0), "thing", (mock.ANY,))))
        self.refused(one_house(((0, mock.ANY), "thing", ())))
        self.refused(mock.ANY)

    def test_many_fields(self):
        self.refused(one_house(thing(0, 0, *[None] * 5)))
        self.refused(one_house(((0, 0), "mark", ())))
        self.refused(one_house(((0, 0), "mark", (None, None))))
        self.refused(one_house(((0, 0), "mark", ((0, 0), (0, 0)))))

    def test_a_thing_of_another_home(self):
        self.refused(picture(part([thing(1, 0)]), part()))
        self.refused(picture(part(), part([thing(0, 0)])))
        self.refused(picture(part([thing(0, 0), thing(1, 5)]), part()))

    def test_numbers_that_do_not_rise(self):
        self.refused(one_house(thing(0, 1), thing(0, 0)))
        self.refused(one_house(thing(0, 1), thing(0, 1)))
        self.refused(one_house(thing(0, 1), mark(0, 1)))
        self.refused(one_house(thing(0, 0), thing(0, 2), thing(0, 1)))
        self.refused(picture(part(), part([thing(1, 3), thing(1, 3)])))

    def test_too_many_things(self):
        self.refused(one_house(*[thing(0, number) for number in range(41)]))
        self.refused(picture(part(), part([thing(1, number) for number in range(41)])))

    def test_letters(self):
        names = ((0, 0),)
        for sender, to in ((0, 0), (1, 1), (0, 2), (2, 0), (-1, 0), (0, -1), (False, 1), (0, True), (True, 0),
                           (None, 0), (0, None), ("0", 1), (0, "1"), ([], 1), (0, ())):
            self.refused(with_letters((sender, to, names)))
        self.refused(with_letters((0, 1)))
        self.refused(with_letters((0, 1, names, ())))
        self.refused(with_letters((0, 1, ())))
        self.refused(with_letters((0, 1, (0, 0))))
        self.refused(with_letters((0, 1, names), (1, 0, ())))
        self.refused(picture(part([thing(0, 0)]), letters=[(0, 0, names)]))
        self.refused(picture(part([thing(0, 0)]), letters=[(0, 1, names)]))

    def test_a_later_house_is_looked_at_too(self):
        self.refused(picture(part(), (NO_HANDS[:3], ())))
        self.refused(picture(part(), part([((1, 0), "other", ())])))


class NameOfNoThingTest(LookTest):
    def test_each_place(self):
        own = [thing(0, 0)]
        for place in range(4):
            self.refused(picture(part(own, NO_HANDS[:place] + ((0, 7),))), 0, 7)
        for place in range(6):
            self.refused(picture(part(own, still=[(0, 0)] * place + [(0, 7)])), 0, 7)
        for place in range(4):
            self.refused(one_house(thing(0, 0, *[None] * place, (0, 7))), 0, 7)
        self.refused(one_house(mark(0, 0, (0, 7))), 0, 7)
        self.refused(with_letters((0, 1, ((1, 7),))), 1, 7)
        self.refused(with_letters((0, 1, ((1, 0), (0, 0), (0, 99)))), 0, 99)
        self.refused(with_letters((0, 1, ((1, 0),)), (1, 0, ((1, 1),))), 1, 1)

    def test_a_name_of_another_house(self):
        self.refused(picture(part(hands=[(1, 0)]), part()), 1, 0)
        self.refused(picture(part([thing(0, 3, (1, 3))]), part([thing(1, 2)])), 1, 3)

    def test_the_first_in_order(self):
        first = part([thing(0, 0, None, (0, 12), (0, 13)), mark(0, 1, (0, 14))], [None, (0, 10)], [(0, 11)])
        second = part([thing(1, 0, (1, 23))], [(1, 20), (1, 21)], [(1, 22)])
        parts = [first, second]
        letters = [(0, 1, ((1, 30), (1, 31))), (1, 0, ((0, 32),))]
        told = picture(*parts, letters=letters)
        order = [(0, 10), (0, 11), (0, 12), (0, 13), (0, 14), (1, 20), (1, 21), (1, 22), (1, 23),
                 (1, 30), (1, 31), (0, 32)]
        for name in order:
            self.refused(told, *name)
            told = mended(told, name)
        self.let_by(told)

    def test_form_is_looked_at_first(self):
        self.refused(picture(part(hands=[(0, 7)]), part([thing(1, 1), thing(1, 0)])))
        self.refused(picture(part(hands=[(1, 7)]), part(), letters=[(0, 0, ((0, 0),))]))
        self.refused(picture(part(hands=[(0, 7)]), part(), letters=[(0, 1, ())]))
        self.refused(one_house(thing(0, 0, (0, 7)), ((0, 1), "other", ())))
        self.refused(one_house(thing(0, 0, (0, 7), (0, 100))))


def mended(told, name):
    """The same picture with another name, that of a thing, in the place of one."""
    if told == name:
        return (0, 0)
    return tuple(mended(one, name) for one in told) if isinstance(told, tuple) else told
