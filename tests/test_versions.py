"""Versions, and records led between them: [7.1], [7.2], with [0.2], [0.3], [0.4]."""

import itertools
import random
import unittest

from oldhands.changes import change_about, shape_behind
from oldhands.errors import BadKind, BadPath, BadPiece, BadTurn, BadValue, BadVersion, Full
from oldhands.leading import led, lost
from oldhands.values import is_of
from oldhands.versions import Versions, led_between, lost_between, restored_between
from chains import ALL, CHANGES, CHOICE, FIRST, LINE, NUMBER, RECORD, SHAPES, TEXT
from samples import deep, items, letters, rec, record, rows, some_value


def plain_steps(start, goal):
    """The steps between two versions: the version from which each leads, its change and its elder shape."""
    if start <= goal:
        return [(at, CHANGES[at], SHAPES[at]) for at in range(start, goal)]
    return [(at, change_about(CHANGES[at - 1], SHAPES[at - 1]), SHAPES[at]) for at in range(start, goal, -1)]


def some_records(number, many):
    """Some records of a version: drawn ones and what the sample is led to."""
    chance = random.Random(number)
    one = RECORD
    for own, change, shape in plain_steps(0, number):
        one = led(change, shape, one)
    return [one] + [some_value(SHAPES[number], chance) for at in range(many)]


class VersionsTest(unittest.TestCase):
    def looks(self, versions, shapes, changes):
        self.assertEqual(versions.many(), len(shapes))
        for number, shape in enumerate(shapes):
            self.assertEqual(versions.shape(number), shape)
        for number, change in enumerate(changes):
            self.assertEqual(versions.change(number), change)
        for number in (-1, -2, -len(shapes), len(shapes), len(shapes) + 1, 10 ** 30, -10 ** 30):
            with self.assertRaises(BadVersion):
                versions.shape(number)
        for number in (-1, -2, -len(shapes), len(changes), len(shapes), 10 ** 30, -10 ** 30):
            with self.assertRaises(BadVersion):
                versions.change(number)

    def refused(self, shape, changes, refusal):
        with self.subTest(shape=shape, changes=changes):
            for again in range(2):
                with self.assertRaises(refusal) as caught:
                    Versions(shape, changes)
                self.assertIs(type(caught.exception), refusal)


class MadeTest(VersionsTest):
    def test_of_no_changes(self):
        for first in (FIRST, record(), record(a=NUMBER)):
            for changes in ([], ()):
                self.looks(Versions(first, changes), [first], [])

    def test_of_some_changes(self):
        for many in range(21):
            self.looks(Versions(FIRST, CHANGES[:many]), SHAPES[:many + 1], CHANGES[:many])
            self.looks(Versions(FIRST, list(CHANGES[:many])), SHAPES[:many + 1], CHANGES[:many])

    def test_twenty_are_all_of_the_pieces(self):
        self.assertEqual(len(CHANGES), 20)
        self.assertEqual({piece[0] for path, piece in CHANGES},
                         {"put", "drop", "name", "sink", "lift", "turn", "split", "join", "part", "whole"})

    def test_what_is_no_shape(self):
        for shape in (NUMBER, TEXT, CHOICE, ("list", FIRST, 1), ("list", record(), 1), ("rows", "k", LINE, 2), (),
                      ("record",), ("record", ()) + ((),), ("record", (("each", TEXT),)),
                      ("record", (("b", TEXT), ("a", TEXT))), ("number", 2, 1), ("x",), letters(9),
                      record(a=deep(5)), record(a=("text", 61)), (("a", TEXT),)):
            self.refused(shape, [], BadKind)
            self.refused(shape, [((), ("put", "x", TEXT, ""))], BadKind)
            self.refused(shape, CHANGES, BadKind)
        Versions(record(a=deep(4)), [])
        Versions(letters(8), [])

    def test_changes_that_are_none(self):
        for change, refusal in (
            ((("x",), ("put", "x", TEXT, "")), BadPath), ((("l",), ("put", "x", TEXT, "")), BadPath),
            ((("a",), ("put", "x", TEXT, "")), BadPath), (((), ("put", "a", TEXT, "")), BadPiece),
            (((), ("drop", "q", 0)), BadPiece), (((), ()), BadPiece), ((("r", "each"), ("drop", "k", "")), BadPiece),
            (((), ("turn", "a", ("out",))), BadTurn), (((), ("turn", "a", ())), BadTurn),
            ((("l", "each"), ("put", "x", deep(3), items())), BadKind),
        ):
            self.refused(FIRST, [change], refusal)
            self.refused(FIRST, (change,), refusal)
            # At the second place and at the twentieth.
            self.refused(FIRST, [((), ("put", "z", TEXT, "")), change], refusal)
            name = [((), ("name", "t", "z")), ((), ("name", "z", "t"))]
            self.refused(FIRST, name * 9 + name[:1] + [change], refusal)

    def test_each_change_is_of_the_shape_behind_those_ahead(self):
        put, drop = ((), ("put", "x", TEXT, "")), ((), ("drop", "x", ""))
        Versions(FIRST, [put, drop, put, drop])
        self.refused(FIRST, [put, put], BadPiece)
        self.refused(FIRST, [drop, put], BadPiece)
        self.refused(FIRST, [put, drop, drop], BadPiece)

    def test_the_first_that_is_due_goes_first(self):
        path, piece, turn = (("x",), ("put", "x", TEXT, "")), ((), ("drop", "x", "")), ((), ("turn", "a", ("out",)))
        for some in itertools.permutations(((path, BadPath), (piece, BadPiece), (turn, BadTurn))):
            self.refused(FIRST, [change for change, refusal in some], some[0][1])

    def test_more_than_twenty(self):
        name = [((), ("name", "t", "z")), ((), ("name", "z", "t"))]
        self.assertEqual(Versions(FIRST, name * 10).many(), 21)
        self.refused(FIRST, name * 10 + name[:1], Full)
        self.refused(FIRST, name * 11, Full)
        self.refused(FIRST, tuple(name * 12), Full)
        self.refused(FIRST, CHANGES + (((), ("put", "z", TEXT, "")),), Full)

    def test_changes_are_looked_at_ahead_of_how_many_they_are(self):
        name = [((), ("name", "t", "z")), ((), ("name", "z", "t"))]
        self.refused(FIRST, name * 10 + [((), ("drop", "x", ""))], BadPiece)
        self.refused(FIRST, name * 11 + [(("x",), ("drop", "x", ""))], BadPath)
        self.refused(FIRST, [((), ("turn", "a", ("out",)))] + name * 11, BadTurn)

    def test_a_list_that_the_asker_changes_later(self):
        changes = list(CHANGES[:3])
        versions = Versions(FIRST, changes)
        changes.pop()
        changes[0] = ((), ("drop", "a", 0))
        self.looks(versions, SHAPES[:4], CHANGES[:3])
        changes.clear()
        changes.extend(CHANGES)
        self.looks(versions, SHAPES[:4], CHANGES[:3])
        self.assertEqual(led_between(versions, 3, 0, led_between(versions, 0, 3, RECORD))[0], "record")

    def test_nothing_handed_in_is_changed(self):
        changes = list(CHANGES)
        versions = Versions(FIRST, changes)
        with self.assertRaises(Full):
            versions.grown(((), ("put", "z", TEXT, "")))
        self.assertEqual(changes, list(CHANGES))


class GrownTest(VersionsTest):
    def test_one_by_one(self):
        versions, elder = Versions(FIRST, []), []
        for change in CHANGES:
            elder.append(versions)
            versions = versions.grown(change)
            self.assertIsInstance(versions, Versions)
        elder.append(versions)
        for many, one in enumerate(elder):
            self.looks(one, SHAPES[:many + 1], CHANGES[:many])

    def test_two_of_one(self):
        base = Versions(FIRST, CHANGES[:2])
        one, two = base.grown(((), ("put", "x", TEXT, ""))), base.grown(((), ("put", "y", TEXT, "")))
        self.looks(base, SHAPES[:3], CHANGES[:2])
        self.assertEqual(one.change(2), ((), ("put", "x", TEXT, "")))
        self.assertEqual(two.change(2), ((), ("put", "y", TEXT, "")))
        self.assertEqual(one.shape(3), shape_behind(((), ("put", "x", TEXT, "")), SHAPES[2]))

    def test_refused(self):
        for versions in (Versions(FIRST, []), ALL):
            last = versions.shape(versions.many() - 1)
            before = [versions.shape(number) for number in range(versions.many())]
            for change, refusal in (((("x",), ("put", "x", TEXT, "")), BadPath), (((), ("drop", "q", 0)), BadPiece),
                                    (((), ("turn", "l", ("cut", 1))), BadTurn),
                                    ((("l", "each"), ("put", "x", deep(3), items())), BadKind)):
                for again in range(2):
                    with self.assertRaises(refusal) as caught:
                        versions.grown(change)
                    self.assertIs(type(caught.exception), refusal)
            self.assertEqual([versions.shape(number) for number in range(versions.many())], before)
            self.assertEqual(versions.shape(versions.many() - 1), last)
        with self.assertRaises(Full):
            ALL.grown(((), ("put", "z", TEXT, "")))
        self.looks(ALL, SHAPES, CHANGES)


class BetweenTest(VersionsTest):
    def test_none_one_and_several_changes(self):
        kind = record(n=NUMBER)
        versions = Versions(kind, [((), ("turn", "n", ("bounds", 0, 9))), ((), ("turn", "n", ("scale", 10))),
                                   ((), ("name", "n", "m"))])
        for start, goal, one, there, some in (
            (0, 0, rec(n=-4), rec(n=-4), []),
            (0, 1, rec(n=-4), rec(n=0), [(0, (), (-4,))]),
            (0, 1, rec(n=4), rec(n=4), []),
            (0, 2, rec(n=-4), rec(n=0), [(0, (), (-4,))]),
            (0, 3, rec(n=7), rec(m=70), []),
            (3, 3, rec(m=76), rec(m=76), []),
            (3, 2, rec(m=76), rec(n=76), []),
            (3, 1, rec(m=76), rec(n=7), [(2, (), (76,))]),
            (2, 1, rec(n=76), rec(n=7), [(2, (), (76,))]),
            (3, 0, rec(m=76), rec(n=7), [(2, (), (76,))]),
            (3, 0, rec(m=70), rec(n=7), []),
            (1, 3, rec(n=9), rec(m=90), []),
            (1, 0, rec(n=9), rec(n=9), []),
        ):
            with self.subTest(start=start, goal=goal, one=one):
                self.assertEqual(led_between(versions, start, goal, one), there)
                self.assertEqual(lost_between(versions, start, goal, one), some)
                self.assertEqual(restored_between(versions, start, goal, there, some), one)

    def test_what_is_lost_step_by_step(self):
        kind = record(l=("list", record(n=NUMBER, t=TEXT), 3))
        versions = Versions(kind, [(("l", "each"), ("turn", "n", ("bounds", -5, 5))),
                                   (("l", "each"), ("turn", "t", ("cut", 2))),
                                   (("l", "each"), ("turn", "n", ("bounds", -2, 2))),
                                   (("l", "each"), ("drop", "n", 0))])
        one = rec(l=items(rec(n=9, t="abc"), rec(n=1, t="xy"), rec(n=-3, t="long")))
        some = [(0, ("l", 0), (9,)), (1, ("l", 0), ("abc",)), (1, ("l", 2), ("long",)), (2, ("l", 0), (5,)),
                (2, ("l", 2), (-3,)), (3, ("l", 0), (2,)), (3, ("l", 1), (1,)), (3, ("l", 2), (-2,))]
        there = rec(l=items(rec(t="ab"), rec(t="xy"), rec(t="lo")))
        self.assertEqual(led_between(versions, 0, 4, one), there)
        self.assertEqual(lost_between(versions, 0, 4, one), some)
        for seed in range(20):
            shuffled = list(some)
            random.Random(seed).shuffle(shuffled)
            self.assertEqual(restored_between(versions, 0, 4, there, shuffled), one)
            self.assertEqual(restored_between(versions, 0, 4, there, tuple(shuffled)), one)
        # What was led there loses nothing back.
        for start, goal in ((4, 0), (4, 2), (3, 1)):
            self.assertEqual(lost_between(versions, start, goal, led_between(versions, 0, start, one)), [])

    def test_lost_on_the_way_back(self):
        kind = record(l=("list", record(n=NUMBER), 3))
        versions = Versions(kind, [(("l", "each"), ("put", "a", NUMBER, 1)), (("l", "each"), ("put", "b", NUMBER, 2)),
                                   (("l", "each"), ("name", "b", "c"))])
        one = rec(l=items(rec(a=1, c=3, n=0), rec(a=5, c=2, n=0), rec(a=7, c=8, n=0)))
        some = [(2, ("l", 0), (3,)), (2, ("l", 2), (8,)), (1, ("l", 1), (5,)), (1, ("l", 2), (7,))]
        there = rec(l=items(*[rec(n=0)] * 3))
        self.assertEqual(led_between(versions, 3, 0, one), there)
        self.assertEqual(lost_between(versions, 3, 0, one), some)
        for shuffled in itertools.permutations(some):
            self.assertEqual(restored_between(versions, 3, 0, there, list(shuffled)), one)

    def test_by_one_change_after_the_other(self):
        lost_many = {True: 0, False: 0}
        for start in range(0, 21, 4):
            for one in some_records(start, 3):
                for goal in range(21):
                    here, told = one, []
                    for number, change, shape in plain_steps(start, goal):
                        told.extend((number, where, values) for where, values in lost(change, shape, here))
                        here = led(change, shape, here)
                    with self.subTest(start=start, goal=goal, one=one):
                        self.assertEqual(led_between(ALL, start, goal, one), here)
                        self.assertIs(is_of(here, SHAPES[goal]), True)
                        self.assertEqual(lost_between(ALL, start, goal, one), told)
                        self.assertEqual(restored_between(ALL, start, goal, here, told), one)
                        random.Random(goal).shuffle(told)
                        self.assertEqual(restored_between(ALL, start, goal, here, told), one)
                    lost_many[start < goal] += len(told)
        self.assertGreater(min(lost_many.values()), 100)

    def test_over_one_amid_is_the_same(self):
        for one in some_records(0, 2):
            for amid in range(21):
                there = led_between(ALL, 0, amid, one)
                self.assertEqual(led_between(ALL, amid, 20, there), led_between(ALL, 0, 20, one))
                some = lost_between(ALL, 0, amid, one) + lost_between(ALL, amid, 20, there)
                self.assertEqual(lost_between(ALL, 0, 20, one), some)

    def test_the_same_each_time_and_the_askers_own(self):
        one = some_records(0, 1)[1]
        first = lost_between(ALL, 0, 20, one)
        self.assertIsInstance(first, list)
        kept = list(first)
        self.assertTrue(kept)
        first.clear()
        self.assertEqual(lost_between(ALL, 0, 20, one), kept)
        handed = list(kept)
        there = led_between(ALL, 0, 20, one)
        self.assertEqual(restored_between(ALL, 0, 20, there, handed), one)
        self.assertEqual(handed, kept)
        self.assertEqual(led_between(ALL, 0, 20, one), there)


class BetweenRefusedTest(VersionsTest):
    def refused(self, start, goal, one, refusal, versions=ALL):
        with self.subTest(start=start, goal=goal, one=one):
            for again in range(2):
                with self.assertRaises(refusal):
                    led_between(versions, start, goal, one)
                with self.assertRaises(refusal):
                    lost_between(versions, start, goal, one)
                with self.assertRaises(refusal):
                    restored_between(versions, goal, start, one, [])

    def test_versions_that_are_none(self):
        one = some_records(0, 0)[0]
        for number in (-1, -21, 21, 22, 10 ** 30, -10 ** 30):
            # Ahead of what is no record, too.
            for thing in (one, rec(), 0, "", ()):
                self.refused(number, 0, thing, BadVersion)
                self.refused(0, number, thing, BadVersion)
                self.refused(number, number, thing, BadVersion)
        self.refused(0, 1, RECORD, BadVersion, Versions(FIRST, []))
        self.assertEqual(led_between(Versions(FIRST, []), 0, 0, RECORD), RECORD)

    def test_records_that_are_not_of_their_versions_shape(self):
        for start, goal in ((0, 0), (0, 1), (0, 20), (20, 0), (20, 20), (7, 9), (9, 7)):
            good = led_between(ALL, 0, start, RECORD)
            for thing in (rec(), 0, "", (), ("record",), items(), rows(), good[1], good + ((),),
                          ("record", good[1][1:]), ("record", good[1] + (("zz", 0),)),
                          ("record", good[1][:-1] + ((good[1][-1][0], ()),))):
                self.refused(start, goal, thing, BadValue)
            led_between(ALL, start, goal, good)

    def test_a_record_of_another_version(self):
        for start, goal in ((3, 4), (4, 3), (3, 9), (9, 3), (0, 20), (20, 0)):
            there = led_between(ALL, 0, goal, RECORD)
            self.assertIs(is_of(there, SHAPES[start]), False)
            self.refused(start, goal, there, BadValue)
            with self.assertRaises(BadValue):
                restored_between(ALL, start, goal, led_between(ALL, 0, start, RECORD), [])
            self.assertIs(is_of(restored_between(ALL, start, goal, there, []), SHAPES[start]), True)


if __name__ == "__main__":
    unittest.main()
