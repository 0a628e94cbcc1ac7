import random
import unittest
from unittest import mock

from heldafar.errors import NoHouse, NoPacket
from heldafar.mail import Mail, mail_holds
from tests.helper import NO_NUMBERS

HUGE = 10 ** 5000


def letter(sender, to, number, body="b"):
    return ("letter", sender, to, number, body)


def owned(sender, to, number):
    return ("owned", sender, to, number)


def state(mail):
    """All that a mail tells."""
    others = [other for other in range(mail.many) if other != mail.house]
    return mail.packets(), [(mail.unowned(other), mail.written(other), mail.done(other)) for other in others]


class WriteTest(unittest.TestCase):
    def test_numbers_from_0_on_for_each_house(self):
        mail = Mail(1, 3)
        self.assertEqual([mail.write(0, "a"), mail.write(2, "b"), mail.write(0, "c"), mail.write(0, "a")], [0, 0, 1, 2])
        self.assertEqual((mail.written(0), mail.written(2)), (3, 1))
        self.assertEqual((mail.unowned(0), mail.unowned(2)), (["a", "c", "a"], ["b"]))
        self.assertEqual((mail.done(0), mail.done(2)), (0, 0))

    def test_no_house(self):
        mail = Mail(1, 3)
        mail.write(0, "a")
        before = state(mail)
        for house in (1, 3, 8, -1, HUGE, -HUGE) + NO_NUMBERS:
            for ask in (lambda: mail.write(house, "x"), lambda: mail.unowned(house), lambda: mail.written(house),
                        lambda: mail.done(house)):
                with self.assertRaises(NoHouse):
                    ask()
        self.assertEqual(state(mail), before)

    def test_no_house_beside_one(self):
        mail = Mail(0, 1)
        for house in (0, 1):
            with self.assertRaises(NoHouse):
                mail.write(house, "x")
        self.assertEqual(mail.packets(), [])

    def test_numbers_go_on_behind_owned_letters(self):
        mail = Mail(0, 2)
        mail.write(1, "a")
        mail.take(owned(1, 0, 1))
        self.assertEqual(mail.write(1, "b"), 1)
        self.assertEqual(mail.packets(), [letter(0, 1, 1, "b"), owned(0, 1, 0)])


class PacketsTest(unittest.TestCase):
    def test_order(self):
        mail = Mail(1, 3)
        mail.write(2, ("hand", 0, None))
        mail.write(0, "a")
        mail.write(0, "b")
        mail.take(letter(2, 1, 0))
        self.assertEqual(mail.packets(), [
            letter(1, 0, 0, "a"), letter(1, 0, 1, "b"), owned(1, 0, 0),
            letter(1, 2, 0, ("hand", 0, None)), owned(1, 2, 1),
        ])

    def test_owned_for_each_other_house(self):
        self.assertEqual(Mail(0, 1).packets(), [])
        self.assertEqual(Mail(0, 2).packets(), [owned(0, 1, 0)])
        self.assertEqual(Mail(5, 8).packets(), [owned(5, to, 0) for to in (0, 1, 2, 3, 4, 6, 7)])

    def test_letters_stay_till_they_are_owned(self):
        mail = Mail(0, 2)
        for body in "abcd":
            mail.write(1, body)
        self.assertEqual(mail.packets(), mail.packets())
        self.assertEqual(mail.take(owned(1, 0, 0)), [])
        self.assertEqual(mail.unowned(1), ["a", "b", "c", "d"])
        self.assertEqual(mail.take(owned(1, 0, 2)), [])
        self.assertEqual(mail.unowned(1), ["c", "d"])
        self.assertEqual(mail.packets(), [letter(0, 1, 2, "c"), letter(0, 1, 3, "d"), owned(0, 1, 0)])
        for number in (2, 1, 0):
            self.assertEqual(mail.take(owned(1, 0, number)), [])
            self.assertEqual(mail.unowned(1), ["c", "d"])
        self.assertEqual(mail.take(owned(1, 0, 3)), [])
        self.assertEqual(mail.unowned(1), ["d"])
        self.assertEqual(mail.take(owned(1, 0, 4)), [])
        self.assertEqual(mail.unowned(1), [])
        self.assertEqual(mail.written(1), 4)
        self.assertEqual(mail.packets(), [owned(0, 1, 0)])

    def test_what_one_house_owns_another_does_not(self):
        mail = Mail(0, 3)
        mail.write(1, "a")
        mail.write(2, "b")
        mail.take(owned(2, 0, 1))
        self.assertEqual((mail.unowned(1), mail.unowned(2)), (["a"], []))

    def test_lists_are_built_anew(self):
        mail = Mail(0, 2)
        mail.write(1, "a")
        mail.packets().clear()
        mail.unowned(1).append("b")
        mail.take(letter(1, 0, 0)).append("c")
        self.assertEqual(mail.packets(), [letter(0, 1, 0, "a"), owned(0, 1, 1)])
        self.assertEqual(mail.unowned(1), ["a"])


class TakeTest(unittest.TestCase):
    def test_in_order(self):
        mail = Mail(1, 2)
        self.assertEqual(mail.take(letter(0, 1, 0, "a")), [(0, 0, "a")])
        self.assertEqual(mail.take(letter(0, 1, 1, None)), [(0, 1, None)])
        self.assertEqual(mail.done(0), 2)

    def test_early_ones_are_done_behind_the_missing_one(self):
        mail = Mail(1, 2)
        self.assertEqual(mail.take(letter(0, 1, 3, "d")), [])
        self.assertEqual(mail.take(letter(0, 1, 1, None)), [])
        self.assertEqual(mail.done(0), 0)
        self.assertEqual(mail.take(letter(0, 1, 0, "a")), [(0, 0, "a"), (0, 1, None)])
        self.assertEqual(mail.done(0), 2)
        self.assertEqual(mail.take(letter(0, 1, 2, "c")), [(0, 2, "c"), (0, 3, "d")])
        self.assertEqual(mail.take(letter(0, 1, 4, "e")), [(0, 4, "e")])
        self.assertEqual(mail.packets(), [owned(1, 0, 5)])

    def test_twice_and_lesser_numbers(self):
        mail = Mail(1, 2)
        mail.take(letter(0, 1, 0, "a"))
        mail.take(letter(0, 1, 1, "b"))
        for number in (0, 1, 1, 0):
            self.assertEqual(mail.take(letter(0, 1, number, "x")), [])
            self.assertEqual(mail.done(0), 2)
        self.assertEqual(mail.take(letter(0, 1, 2, "c")), [(0, 2, "c")])

    def test_the_first_body_stays(self):
        for first in ("b", None):
            mail = Mail(1, 2)
            mail.take(letter(0, 1, 1, first))
            self.assertEqual(mail.take(letter(0, 1, 1, "x")), [])
            self.assertEqual(mail.take(letter(0, 1, 0, "a")), [(0, 0, "a"), (0, 1, first)])

    def test_senders_go_their_own_ways(self):
        mail = Mail(1, 3)
        self.assertEqual(mail.take(letter(0, 1, 1, "b")), [])
        self.assertEqual(mail.take(letter(2, 1, 0, "c")), [(2, 0, "c")])
        self.assertEqual(mail.take(letter(2, 1, 1, "d")), [(2, 1, "d")])
        self.assertEqual((mail.done(0), mail.done(2)), (0, 2))
        self.assertEqual(mail.take(letter(0, 1, 0, "a")), [(0, 0, "a"), (0, 1, "b")])

    def test_a_number_of_many_figures_is_kept(self):
        mail = Mail(1, 2)
        self.assertEqual(mail.take(letter(0, 1, HUGE)), [])
        self.assertEqual(mail.take(letter(0, 1, 0)), [(0, 0, "b")])
        self.assertEqual(mail.done(0), 1)

    def check_refused(self, mail, packets):
        before = state(mail)
        for packet in packets:
            with self.assertRaises(NoPacket):
                mail.take(packet)
            self.assertEqual(state(mail), before)

    def test_not_of_the_form(self):
        mail = Mail(1, 3)
        mail.write(0, "a")
        mail.take(letter(0, 1, 1, "b"))
        self.check_refused(mail, [
            None, True, 0, "", "letter", b"owned", (), [], {}, list(letter(0, 1, 0)), list(owned(0, 1, 0)),
            ("letter",), ("owned",), ("other", 0, 1, 0), ("other", 0, 1, 0, "b"), (None, 0, 1, 0), ("", 0, 1, 0, "b"),
            ("letter", 0, 1, 0), ("owned", 0, 1, 0, "b"), ("owned", 0, 1), letter(0, 1, 0) + ("b",),
            owned(0, 1, 0) + ("b", "b"), (mock.ANY, 0, 1, 0), (mock.ANY, 0, 1, 0, "b"), (("letter",), 0, 1, 0, "b"),
            ([], 0, 1, 0), ((), 0, 1, 0),
        ])
        # What was refused left nothing behind.
        self.assertEqual(mail.take(letter(0, 1, 0, "a")), [(0, 0, "a"), (0, 1, "b")])

    def test_wrong_numbers_in_it(self):
        mail = Mail(1, 3)
        mail.write(0, "a")
        for number in (-1, -HUGE) + NO_NUMBERS:
            self.check_refused(mail, [letter(0, 1, number), owned(0, 1, number)])
        for sender in (1, 3, -1, HUGE, -HUGE) + NO_NUMBERS:
            self.check_refused(mail, [letter(sender, 1, 0), owned(sender, 1, 0)])
        for to in (0, 2, 3, -1, HUGE, -HUGE) + NO_NUMBERS:
            self.check_refused(mail, [letter(0, to, 0), owned(0, to, 0)])
        mail = Mail(0, 2)
        self.check_refused(mail, [letter(1, False, 0), owned(1, False, 0), letter(True, 0, 0), letter(1, 0, False)])

    def test_more_owned_than_were_written(self):
        mail = Mail(1, 3)
        self.check_refused(mail, [owned(0, 1, 1)])
        mail.write(0, "a")
        mail.write(0, "b")
        mail.write(2, "c")
        self.check_refused(mail, [owned(0, 1, 3), owned(0, 1, HUGE), owned(2, 1, 2)])
        mail.take(owned(0, 1, 2))
        self.check_refused(mail, [owned(0, 1, 3)])
        mail.take(owned(0, 1, 2))
        self.assertEqual(mail.unowned(2), ["c"])


class CopiedTest(unittest.TestCase):
    def filled(self):
        mail = Mail(1, 3)
        mail.write(0, "a")
        mail.write(0, "b")
        mail.take(owned(0, 1, 1))
        mail.take(letter(2, 1, 0, "c"))
        mail.take(letter(2, 1, 2, "e"))
        return mail

    def test_each_goes_its_own_way(self):
        for ways in ((0, 1), (1, 0)):
            mail = self.filled()
            pair = [mail, mail.copied()]
            here, there = [pair[place] for place in ways]
            self.assertIsInstance(there, Mail)
            self.assertEqual(state(here), state(there))
            before = state(there)
            here.write(0, "x")
            here.write(2, "y")
            here.take(owned(0, 1, 2))
            here.take(letter(2, 1, 3, "f"))
            here.take(letter(0, 1, 1, "z"))
            self.assertEqual(here.take(letter(2, 1, 1, "d")), [(2, 1, "d"), (2, 2, "e"), (2, 3, "f")])
            self.assertEqual(state(there), before)
            self.assertEqual(there.write(0, "c"), 2)
            self.assertEqual(there.take(letter(0, 1, 0, "0")), [(0, 0, "0")])
            self.assertEqual(there.take(letter(2, 1, 1, "D")), [(2, 1, "D"), (2, 2, "e")])


class MailHoldsTest(unittest.TestCase):
    def test_a_beginning(self):
        for written, done in (([], []), (["a"], []), (["a", "b"], ["a"]), (["a", "b"], ["a", "b"])):
            before = (list(written), list(done))
            self.assertIs(mail_holds(written, done), True)
            self.assertEqual((written, done), before)

    def test_no_beginning(self):
        for written, done in (
            ([], ["a"]), (["a"], ["a", "a"]), (["a", "b"], ["b"]), (["a", "b"], ["b", "a"]), (["a", "b"], ["a", "c"]),
            (["a", "b"], ["a", "b", "c"]), ([("a", 1)], [("a", 2)]), (["a", "b", "c"], ["a", "c"]), (["a"], [None]),
        ):
            self.assertIs(mail_holds(written, done), False)


class WhateverComesTest(unittest.TestCase):
    def test_what_is_done_is_a_beginning(self):
        """Two houses among three; packets are lost, doubled, come in any order; a house falls now and then."""
        for seed in range(60):
            source = random.Random(seed)
            mails = {0: Mail(0, 3), 2: Mail(2, 3)}
            saved = {house: (mails[house].copied(), [], []) for house in mails}
            written, done = {0: [], 2: []}, {0: [], 2: []}
            flying = []
            for step in range(300):
                house = source.choice([0, 2])
                word = source.choice(["write", "save", "come", "come", "come", "lose", "double", "fall"])
                if word == "write":
                    body = (house, step)
                    self.assertEqual(mails[house].write(2 - house, body), len(written[house]))
                    written[house].append(body)
                elif word == "save":
                    saved[house] = (mails[house].copied(), list(written[house]), list(done[house]))
                    flying.extend(packet for packet in mails[house].packets() if packet[2] != 1)
                elif word == "fall" and source.random() < 0.2:
                    mails[house] = saved[house][0].copied()
                    written[house], done[house] = list(saved[house][1]), list(saved[house][2])
                elif flying:
                    packet = flying.pop(source.randrange(len(flying)))
                    if word == "double":
                        flying.extend([packet, packet])
                    elif word == "come":
                        to = packet[2]
                        for sender, number, body in mails[to].take(packet):
                            self.assertEqual((sender, number), (2 - to, len(done[to])))
                            done[to].append(body)
                for house in (0, 2):
                    self.assertTrue(mail_holds(written[house], done[2 - house]))
                    self.assertEqual(mails[house].done(2 - house), len(done[house]))
                    self.assertEqual(len(done[house]), len(set(done[house])))
            self.check_all_come(mails, written, done)

    def check_all_come(self, mails, written, done):
        for again in range(3):
            for house in (0, 2):
                for packet in mails[house].packets():
                    if packet[2] != 1:
                        done[2 - house].extend(body for sender, number, body in mails[2 - house].take(packet))
        for house in (0, 2):
            self.assertEqual(done[2 - house], written[house])
            self.assertEqual(mails[house].unowned(2 - house), [])
