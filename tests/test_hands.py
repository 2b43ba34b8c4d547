"""Hands of every version at one office: [10.4], with [8.2], [0.1], [0.4]."""

import random
import unittest

from oldhands.errors import BadPath, BadValue, BadVersion, Full, NoDeed, NoRecord
from oldhands.hands import Hand
from oldhands.office import Office
from oldhands.versions import Versions
from chains import ALL, CHANGES, CHURN, FIRST, RECORD
from deeds import PlainOffice, drawn_deed, plain_set, told_of
from samples import items, rec, record, some_value

NUMBER = ("number", 0, 9)
TEXT = ("text", 3)
SHORT_CHANGES = (((), ("turn", "n", ("scale", 10))), ((), ("put", "x", NUMBER, 4)), ((), ("drop", "t", "zz")))
SHORT = Versions(record(n=NUMBER, t=TEXT), SHORT_CHANGES)
NO_VERSIONS = (-1, -2, -4, 4, 5, 10 ** 30, -10 ** 30)


def hands_of(office):
    return [Hand(office, number) for number in range(office.versions().many())]


class HandTest(unittest.TestCase):
    def refused(self, office, refusal, do, *arguments):
        """What is refused changes nothing."""
        before = told_of(office)
        for again in range(2):
            with self.subTest(arguments=arguments), self.assertRaises(refusal) as caught:
                do(*arguments)
            self.assertIs(type(caught.exception), refusal)
        self.assertEqual(told_of(office), before)


class DeedsTest(HandTest):
    def test_each_in_its_own_shape(self):
        office = Office(SHORT)
        first, second, third, fourth = hands_of(office)
        self.assertEqual(first.all_keys(), [])
        self.assertEqual(second.write("key", rec(n=37, t="ab")), ("new", "key"))
        self.assertEqual([hand.read("key") for hand in (first, second, third, fourth)],
                         [rec(n=3, t="ab"), rec(n=37, t="ab"), rec(n=37, t="ab", x=4), rec(n=37, x=4)])
        self.assertEqual(fourth.set_at("key", ("x",), 9), ("turned", "key", (2, 3)))
        self.assertEqual(first.write("key", rec(n=3, t="c")), ("turned", "key", (0, 2)))
        self.assertEqual(third.write("key", rec(n=37, t="c", x=9)), ("turned", "key", None))
        self.assertEqual([hand.read("key") for hand in (first, second, third, fourth)],
                         [rec(n=3, t="c"), rec(n=37, t="c"), rec(n=37, t="c", x=9), rec(n=37, x=9)])
        self.assertEqual(first.write("a", rec(n=0, t="")), ("new", "a"))
        for hand in (first, second, third, fourth):
            self.assertEqual(hand.all_keys(), ["a", "key"])
        self.assertEqual(third.drop("key"), ("gone", "key"))
        self.assertEqual(first.all_keys(), ["a"])
        self.assertEqual(office.deeds(), [
            ("write", 1, "key", rec(n=37, t="ab")), ("set", 3, "key", ("x",), 9), ("write", 0, "key", rec(n=3, t="c")),
            ("write", 2, "key", rec(n=37, t="c", x=9)), ("write", 0, "a", rec(n=0, t="")), ("drop", "key"),
        ])

    def test_it_works_on_the_office_handed_in(self):
        office, other = Office(SHORT), Office(SHORT)
        hand = Hand(office, 0)
        hand.write("a", rec(n=1, t="b"))
        self.assertEqual((office.all_keys(), other.all_keys()), (["a"], []))
        office.do(("set", 3, "a", ("n",), 25))
        self.assertEqual(hand.read("a"), rec(n=2, t="b"))
        office.back()
        self.assertEqual(hand.read("a"), rec(n=1, t="b"))
        office.again()
        self.assertEqual(hand.read("a"), rec(n=2, t="b"))
        office.do(("drop", "a"))
        self.assertEqual(hand.all_keys(), [])
        office.back()
        # What a hand did is taken back as any deed is.
        hand.drop("a")
        self.assertEqual(office.back(), ("drop", "a"))
        told = hand.all_keys()
        told.append("b")
        self.assertEqual(hand.all_keys(), ["a"])

    def test_no_version(self):
        office = Office(SHORT)
        office.do(("write", 0, "a", rec(n=1, t="")))
        for number in NO_VERSIONS:
            self.refused(office, BadVersion, Hand, office, number)
        self.refused(office, BadVersion, Hand, Office(Versions(record(), [])), 1)
        office.do(("grow", ((), ("drop", "x", 0))))
        self.assertEqual(Hand(office, 4).read("a"), rec(n=10))

    def test_refused_as_in_the_office(self):
        office = Office(SHORT)
        hand = Hand(office, 2)
        hand.write("a", rec(n=1, t="", x=1))
        for key in ("", "each", "A", "abcdefghi"):
            self.refused(office, NoDeed, hand.write, key, rec(n=1, t="", x=1))
            self.refused(office, NoDeed, hand.set_at, key, ("n",), 1)
            self.refused(office, NoDeed, hand.drop, key)
            self.refused(office, NoRecord, hand.read, key)
        self.refused(office, NoDeed, hand.write, "a", 0)
        self.refused(office, NoDeed, hand.set_at, "a", "n", 0)
        self.refused(office, NoDeed, hand.set_at, "b", ((),), 0)
        self.refused(office, NoRecord, hand.set_at, "b", ("n",), 1)
        self.refused(office, NoRecord, hand.drop, "b")
        self.refused(office, NoRecord, hand.read, "b")
        self.refused(office, BadValue, hand.write, "a", rec(n=1, t=""))
        self.refused(office, BadValue, hand.write, "b", rec(n=1, x=1))
        self.refused(office, BadPath, hand.set_at, "a", ("y",), 1)
        self.refused(office, BadValue, hand.set_at, "a", ("x",), 10)
        keys = [one + other for one in "abcdefghij" for other in "abcdefghij"][:99]
        for key in keys:
            hand.write(key, rec(n=1, t="", x=1))
        self.refused(office, Full, hand.write, "z", rec(n=1, t="", x=1))


class WhateverOthersDoTest(HandTest):
    def test_what_hands_read_is_the_view(self):
        for seed in range(6):
            chance = random.Random(seed)
            versions, changes = ((Versions(FIRST, CHANGES[:4]), CHANGES), (CHURN, ()))[seed % 2]
            office, plain = Office(versions), PlainOffice(versions)
            hands = hands_of(office)
            for at in range(50):
                versions, views = plain.states[-1]
                deed = drawn_deed(versions, views, chance, changes)
                match deed:
                    case ("write", number, key, one):
                        told = hands[number].write(key, one)
                    case ("set", number, key, where, value):
                        told = hands[number].set_at(key, where, value)
                    case ("drop", key):
                        told = chance.choice(hands).drop(key)
                    case ("grow", change):
                        told = office.do(deed)
                        # The elder hands go on beside a new one.
                        hands.append(Hand(office, versions.many()))
                self.assertEqual(told, plain.do(deed))
                views = plain.states[-1][1]
                for key in views:
                    self.assertEqual([hand.read(key) for hand in hands], views[key])
            self.assertEqual(office.deeds(), plain.rows)

    def test_an_elder_hand_sees_no_version_come(self):
        office = Office(Versions(FIRST, []))
        hand = Hand(office, 0)
        hand.write("a", RECORD)
        for change in CHANGES:
            office.do(("grow", change))
            self.assertEqual(hand.read("a"), RECORD)
        self.assertEqual(hand.set_at("a", ("t",), "q-r"), ("turned", "a", (0, 20)))
        self.assertEqual(dict(hand.read("a")[1])["t"], "q-r")
        self.assertEqual(hand.set_at("a", ("l",), items(rec(n=1))), ("turned", "a", (0, 20)))

    def test_what_a_hand_wrote_it_reads(self):
        for versions in (ALL, CHURN):
            office = Office(versions)
            chance = random.Random(3)
            for hand, number in zip(hands_of(office), range(versions.many())):
                one = some_value(versions.shape(number), chance)
                hand.write("a", one)
                self.assertEqual(hand.read("a"), one)


class EitherOrderTest(HandTest):
    def deed_of(self, office, key, chance):
        """Some deed of a key that is no grow and not refused."""
        versions = office.versions()
        views = {own: [office.read(number, own) for number in range(versions.many())] for own in office.all_keys()}
        return drawn_deed(versions, views, chance, keys=key)

    def test_two_deeds_of_unlike_keys(self):
        for seed in range(12):
            chance = random.Random(seed)
            versions = (CHURN, Versions(FIRST, []), Versions(FIRST, CHANGES[:12]))[seed % 3]
            office = Office(versions)
            for at in range(8):
                for key in "ab":
                    office.do(self.deed_of(office, key, chance))
                one, other = [self.deed_of(office, key, chance) for key in "ab"]
                forth = (office.do(one), office.do(other), told_of(office)[:4])
                office.back()
                office.back()
                back = (office.do(other), office.do(one), told_of(office)[:4])
                self.assertEqual(forth, (back[1], back[0], back[2]))

    def test_rows_of_deeds_of_unlike_keys(self):
        for seed in range(4):
            chance = random.Random(seed)
            versions = (CHURN, Versions(FIRST, CHANGES[:8]))[seed % 2]
            by_key = {}
            for key in "abc":
                plain = PlainOffice(versions)
                for at in range(6):
                    plain.do(drawn_deed(*plain.states[-1], chance, keys=key))
                by_key[key] = plain.rows
            told = []
            for order in range(4):
                office, rest = Office(versions), {key: list(some) for key, some in by_key.items()}
                tells = {key: [] for key in rest}
                while any(rest.values()):
                    key = chance.choice([own for own in rest if rest[own]])
                    tells[key].append(office.do(rest[key].pop(0)))
                told.append((tells, told_of(office)[:4]))
            self.assertEqual(told, told[:1] * 4)

    def test_a_set_beside_a_write_of_the_same_place(self):
        # Of one key the order counts, by the words of the deeds themselves.
        office = Office(SHORT)
        office.do(("write", 0, "a", rec(n=1, t="b")))
        one, other = ("write", 0, "a", rec(n=2, t="b")), ("set", 0, "a", ("n",), 3)
        for first, second, n in ((one, other, 3), (other, one, 2)):
            office.do(first)
            office.do(second)
            self.assertEqual(office.read(0, "a"), plain_set(SHORT.shape(0), rec(n=0, t="b"), ("n",), n))
            office.back()
            office.back()


if __name__ == "__main__":
    unittest.main()
