"""Views kept once, with spares: [9.1], [9.2], [9.3], with [0.2], [0.3], [0.4]."""

import itertools
import random
import unittest

from oldhands.errors import BadVersion
from oldhands.pieces import made_values, new_values, old_values, with_new
from oldhands.shapes import kind_at
from oldhands.spares import is_kept, kept_of, moved_home, read_kept, spare_many, views_of
from oldhands.versions import Versions
from oldhands.views import are_views, begun_views
from chains import (
    ALL, CHURN, RECORD, SHAPES, drawn_views, plain_are_views, plain_begun, plain_kept, plain_written, there_and_back,
)
from samples import all_values, items, places, put_at, rec, record, rows, some_value
from ways import all_changes, plain_places, plain_with

NUMBER = ("number", 0, 9)
TEXT = ("text", 3)
SHORT = Versions(record(n=NUMBER, t=TEXT), [
    ((), ("turn", "n", ("scale", 10))), ((), ("put", "x", NUMBER, 4)), ((), ("drop", "t", "zz")),
])
BEGUN = [rec(n=3, t="ab"), rec(n=37, t="ab"), rec(n=37, t="ab", x=4), rec(n=37, x=4)]
TURNED = [rec(n=3, t="ab"), rec(n=37, t="ab"), rec(n=37, t="ab", x=9), rec(n=37, x=9)]

LINES = Versions(record(l=("list", record(n=NUMBER), 3), r=("rows", "k", record(k=TEXT, n=NUMBER), 3)), [
    (("l", "each"), ("turn", "n", ("scale", 10))), (("r", "each"), ("drop", "n", 5)),
    (("l", "each"), ("put", "x", NUMBER, 7)),
])
VIEWS = [
    rec(l=items(rec(n=1), rec(n=2), rec(n=0)), r=rows(rec(k="", n=5), rec(k="a", n=1), rec(k="c", n=3))),
    rec(l=items(rec(n=15), rec(n=20), rec(n=9)), r=rows(rec(k="", n=5), rec(k="a", n=1), rec(k="c", n=3))),
    rec(l=items(rec(n=15), rec(n=20), rec(n=9)), r=rows(rec(k=""), rec(k="a"), rec(k="c"))),
    rec(l=items(rec(n=15, x=1), rec(n=20, x=2), rec(n=9, x=7)), r=rows(rec(k=""), rec(k="a"), rec(k="c"))),
]
FROM_FIRST = (0, VIEWS[0], (
    (), ((("l", 0), (15,)), (("l", 2), (9,))), (), ((("l", 0), (1,)), (("l", 1), (2,))),
))
FROM_LAST = (3, VIEWS[3], ((), ((("r", "a"), (1,)), (("r", "c"), (3,))), (), ()))
SAMPLES = all_changes(3)
NO_VERSIONS = (-1, -2, -4, 4, 5, 10 ** 30, -10 ** 30)
STRANGERS = (0, 1, -1, 4, 91, 10 ** 30, "", "ab", "l", "each", "record", (), (0,), ("",), ((),), ((), ()), ((), (4,)),
             ((), (9,)), (((), (4,)),), (((), (9,)),), ("record", ()), ("list", ()), ("rows", ()))


def nested(depth):
    thing = ()
    for level in range(depth):
        thing = (thing,)
    return thing


def other_spares(versions, one, other):
    """The new values of another record of version 1, at the spots that one has too, where others would be made."""
    (path, piece), shape = versions.change(0), versions.shape(0)
    theirs, found = plain_places(versions.shape(1), other, path), []
    for where, spot in plain_places(shape, one, path).items():
        made = made_values(piece, kind_at(shape, path), old_values(piece, spot))
        if where in theirs and new_values(piece, theirs[where]) != made:
            found.append((where, new_values(piece, theirs[where])))
    return tuple(found)


def with_spares(versions, one, spares):
    """The record of version 1 to which one is led, with these new values at their wheres."""
    (path, piece), shape = versions.change(0), versions.shape(0)
    kind, some, done = kind_at(shape, path), dict(spares), []
    for where, spot in plain_places(shape, one, path).items():
        made = made_values(piece, kind, old_values(piece, spot))
        done.append(with_new(piece, kind, spot, some.get(where, made)))
    done.reverse()
    return plain_with(one, path, lambda spot: done.pop())


class SparesTest(unittest.TestCase):
    def refused(self, do, *arguments):
        for again in range(2):
            with self.subTest(arguments=arguments), self.assertRaises(BadVersion):
                do(*arguments)

    def kept(self, versions, views, home, expected):
        """Views, and the triple that is kept of them at a home, lead to one another."""
        with self.subTest(home=home, views=views):
            many = versions.many()
            for handed in (list(views), tuple(views)):
                self.assertEqual(kept_of(versions, handed, home), expected)
            told = views_of(versions, expected)
            self.assertIsInstance(told, list)
            self.assertEqual(told, list(views))
            self.assertEqual([read_kept(versions, expected, number) for number in range(many)], list(views))
            self.assertIs(is_kept(versions, expected), True)
            self.assertEqual(spare_many(expected), sum(len(some) for some in expected[2]))


class KeptTest(SparesTest):
    def test_what_was_begun_has_no_spares(self):
        for number in range(4):
            views = plain_begun(SHORT, number, BEGUN[number])
            self.kept(SHORT, views, number, (number, BEGUN[number], ((), (), (), ())))
        for number in range(21):
            one = some_value(SHAPES[number], random.Random(number))
            self.kept(ALL, begun_views(ALL, number, one), number, (number, one, ((),) * 21))
            self.assertEqual(spare_many(kept_of(ALL, begun_views(ALL, number, one), number)), 0)

    def test_spares_of_one_spot(self):
        self.kept(SHORT, BEGUN, 0, (0, BEGUN[0], ((), (((), (37,)),), (), ())))
        self.kept(SHORT, BEGUN, 1, (1, BEGUN[1], ((), (), (), ())))
        self.kept(SHORT, BEGUN, 2, (2, BEGUN[2], ((), (), (), ())))
        self.kept(SHORT, BEGUN, 3, (3, BEGUN[3], ((), (), (((), ("ab",)),), ())))
        self.kept(SHORT, TURNED, 0, (0, TURNED[0], ((), (((), (37,)),), (((), (9,)),), ())))
        self.kept(SHORT, TURNED, 1, (1, TURNED[1], ((), (), (((), (9,)),), ())))
        self.kept(SHORT, TURNED, 2, (2, TURNED[2], ((), (), (), ())))
        self.kept(SHORT, TURNED, 3, (3, TURNED[3], ((), (), (((), ("ab",)),), ())))

    def test_spares_of_some_spots(self):
        self.assertIs(are_views(LINES, VIEWS), True)
        self.kept(LINES, VIEWS, 0, FROM_FIRST)
        self.kept(LINES, VIEWS, 1, (1, VIEWS[1], ((), (), (), FROM_FIRST[2][3])))
        self.kept(LINES, VIEWS, 2, (2, VIEWS[2], ((), FROM_LAST[2][1], (), FROM_FIRST[2][3])))
        self.kept(LINES, VIEWS, 3, FROM_LAST)
        self.assertEqual([spare_many(kept_of(LINES, VIEWS, home)) for home in range(4)], [4, 2, 4, 2])

    def test_two_new_values(self):
        versions = Versions(record(f=TEXT), [((), ("split", "f", "-", "x", "y"))])
        views = [rec(f="a-b"), rec(x="a", y="bc")]
        self.kept(versions, views, 0, (0, views[0], ((), (((), ("a", "bc")),))))
        self.kept(versions, views, 1, (1, views[1], ((), ())))
        views = [rec(f="a-"), rec(x="a", y="")]
        self.kept(versions, views, 0, (0, views[0], ((), ())))
        self.kept(versions, views, 1, (1, views[1], ((((), ("a-",)),), ())))

    def test_a_field_in_a_box(self):
        versions = Versions(record(a=NUMBER, m=record(b=NUMBER)), [
            ((), ("sink", "a", "m")), (("m",), ("turn", "a", ("scale", 10))), ((), ("lift", "m", "a")),
        ])
        views = [rec(a=1, m=rec(b=2)), rec(m=rec(a=1, b=2)), rec(m=rec(a=15, b=2)), rec(a=15, m=rec(b=2))]
        self.kept(versions, views, 0, (0, views[0], ((), (), ((("m",), (15,)),), ())))
        self.kept(versions, views, 3, (3, views[3], ((), (), (), ())))

    def test_of_one_version(self):
        versions = Versions(record(n=NUMBER), [])
        self.kept(versions, [rec(n=4)], 0, (0, rec(n=4), ((),)))
        self.kept(Versions(record(), []), [rec()], 0, (0, rec(), ((),)))

    def test_drawn_ones(self):
        spares = {True: 0, False: 0}
        for versions in (ALL, CHURN):
            for seed in range(30):
                views = drawn_views(versions, seed)
                for home in (0, seed % versions.many(), versions.many() - 1):
                    expected = plain_kept(versions, views, home)
                    self.kept(versions, views, home, expected)
                    for number, some in enumerate(expected[2]):
                        spares[number < home] += len(some)
        self.assertGreater(min(spares.values()), 40)

    def test_of_all_pieces_and_turns(self):
        for sample in SAMPLES:
            versions = there_and_back(sample)
            for at, one in enumerate(sample.records):
                views = plain_begun(versions, 0, one)
                views = plain_written(versions, views, 1, sample.others[at % len(sample.others)])[0]
                views = plain_written(versions, views, 2, sample.records[-1])[0]
                home = at % 4
                self.kept(versions, views, home, plain_kept(versions, views, home))

    def test_nothing_handed_in_is_changed(self):
        views = list(VIEWS)
        triple = kept_of(LINES, views, 0)
        self.assertEqual(views, VIEWS)
        views.clear()
        self.assertEqual(triple, FROM_FIRST)
        told = views_of(LINES, triple)
        told.clear()
        self.assertEqual(views_of(LINES, triple), VIEWS)

    def test_a_home_that_is_none(self):
        for home in NO_VERSIONS:
            self.refused(kept_of, SHORT, BEGUN, home)


class ReadTest(SparesTest):
    def test_one_version(self):
        for number in range(4):
            for triple in (FROM_FIRST, FROM_LAST):
                self.assertEqual(read_kept(LINES, triple, number), VIEWS[number])

    def test_a_version_that_is_none(self):
        for number in NO_VERSIONS:
            for triple in (FROM_FIRST, FROM_LAST):
                self.refused(read_kept, LINES, triple, number)


class MovedTest(SparesTest):
    def test_from_any_home_to_any(self):
        for versions, views in ((SHORT, BEGUN), (SHORT, TURNED), (LINES, VIEWS), (CHURN, drawn_views(CHURN, 5))):
            triples = [plain_kept(versions, views, home) for home in range(versions.many())]
            for triple in triples:
                for home, expected in enumerate(triples):
                    self.assertEqual(moved_home(versions, triple, home), expected)
        self.assertEqual(moved_home(LINES, FROM_FIRST, 3), FROM_LAST)
        self.assertEqual(moved_home(LINES, FROM_LAST, 0), FROM_FIRST)

    def test_there_and_back(self):
        for seed in range(10):
            triple = plain_kept(ALL, drawn_views(ALL, seed), seed)
            for home in (0, 7, 20):
                self.assertEqual(moved_home(ALL, moved_home(ALL, triple, home), seed), triple)

    def test_a_home_that_is_none(self):
        for home in NO_VERSIONS:
            for triple in (FROM_FIRST, FROM_LAST):
                self.refused(moved_home, LINES, triple, home)


class IsKeptTest(SparesTest):
    def told(self, versions, triple, expected):
        with self.subTest(triple=triple):
            for again in range(2):
                self.assertIs(is_kept(versions, triple), expected)

    def test_forms(self):
        good = (1, TURNED[1], ((), (), (((), (9,)),), ()))
        self.told(SHORT, good, True)
        for triple in ((), (1,), (1, TURNED[1]), good + ((),), good[1:], good[::-1], (good,), good[2], TURNED[1],
                       (-1,) + good[1:], (4,) + good[1:], (10 ** 30,) + good[1:], ("1",) + good[1:], ((),) + good[1:],
                       (0,) + good[1:], (3,) + good[1:], (2,) + good[1:], (1, TURNED[2], good[2]), (1, (), good[2]),
                       (1, 0, good[2]), (1, rec(n=91, t=""), good[2]), (1, rec(n=0), good[2]), good[:2] + (0,),
                       good[:2] + ("",), good[:2] + ((),), good[:2] + (good[2][:3],), good[:2] + (good[2] + ((),),),
                       good[:2] + (((), (), 0, ()),), good[:2] + (("", "", "", ""),), good[:2] + ((0, 0, 0, 0),),
                       nested(3), nested(400), (1, nested(400), good[2]), good[:2] + (nested(400),)):
            self.told(SHORT, triple, False)

    def test_homes_spares(self):
        for home in range(4):
            spares = [(), (), (), ()]
            self.told(SHORT, (home, BEGUN[home], tuple(spares)), True)
            for some in ((((), (9,)),), (((), ()),), ((), ()), ((),), (0,), 0, "", "ab", nested(5)):
                spares[home] = some
                self.told(SHORT, (home, BEGUN[home], tuple(spares)), False)

    def test_values(self):
        def triple(values, number=1):
            return 0, rec(n=3, t="ab"), tuple((((), values),) if at == number else () for at in range(4))

        for values, expected in (
            ((31,), True), ((39,), True),
            # What is made is no spare, and what doesn't fit is none.
            ((30,), False), ((40,), False), ((29,), False), ((0,), False), ((91,), False), ((-1,), False),
            ((), False), ((31, 31), False), (("31",), False), (("",), False), (((31,),), False), (31, False),
            ("31", False), (((),), False), (nested(300), False),
        ):
            self.told(SHORT, triple(values), expected)
        for values, expected in (((0,), True), ((9,), True), ((4,), False), ((10,), False), ((-1,), False),
                                 (("",), False), ((), False), ((1, 1), False)):
            self.told(SHORT, triple(values, 2), expected)
        # A drop makes nothing, so it spares nothing.
        for values in ((), (4,), ("",), ((),)):
            self.told(SHORT, triple(values, 3), False)
        # Back from the last version the put value is the drop's.
        for values, expected in ((("",), True), (("abc",), True), (("zz",), False), (("abcd",), False), ((0,), False)):
            self.told(SHORT, (3, BEGUN[3], ((), (), (((), values),), ())), expected)
        # From 37 no other number than the made 3 fits back.
        for values, expected in (((3,), False), ((4,), False), ((30,), False)):
            self.told(SHORT, (1, BEGUN[1], ((((), values),), (), (), ())), expected)

    def test_what_is_read_on_homes_side_counts(self):
        versions = Versions(record(n=NUMBER), [((), ("turn", "n", ("scale", 10))), ((), ("turn", "n", ("scale", 10)))])
        for first, second, expected in (
            ((), (), True), ((((), (37,)),), (), True), ((), (((), (305,)),), True),
            ((((), (37,)),), (((), (375,)),), True), ((((), (37,)),), (((), (305,)),), False),
            ((), (((), (375,)),), False), ((((), (37,)),), (((), (370,)),), False), ((((), (47,)),), (), False),
        ):
            self.told(versions, (0, rec(n=3), ((), first, second)), expected)

    def test_wheres(self):
        def triple(*some):
            return FROM_FIRST[:2] + (((), some, (), ()),)

        one, two = FROM_FIRST[2][1]
        middle = (("l", 1), (25,))
        for some in ((), (one,), (two,), (one, two), (middle,), (one, middle), (middle, two), (one, middle, two)):
            self.told(LINES, triple(*some), True)
        for some in ((two, one), (one, one), (one, two, two), (one, two, one), (middle, one), (two, middle),
                     (one, two, middle), (two, middle, one)):
            self.told(LINES, triple(*some), False)
        for where in ((), ("l",), ("l", 3), ("l", -1), ("l", "0"), ("l", 0, "n"), ("r", 0), ("r", "a"), ("x", 0),
                      (0, 0), ("l", (0,)), (("l",), 0), ("l", ()), ("", 0), ("each",), ("l", "each"), 0, "l", "",
                      nested(300)):
            self.told(LINES, triple((where, (15,))), False)
            self.told(LINES, triple(one, (where, (15,))), False)
            self.told(LINES, triple((where, (15,)), two), False)

    def test_what_is_no_pair(self):
        good = FROM_FIRST[2][1][0]
        for spare in ((), (("l", 0),), good + ((),), (good,), good[::-1], good[0], good[1], 0, "", "ab", ("l", 0),
                      (("l", 0), 15), (("l", 0), "15"), nested(9)):
            self.told(LINES, FROM_FIRST[:2] + (((), (spare,), (), ()),), False)
            self.told(LINES, FROM_FIRST[:2] + (((), (good, spare), (), ()),), False)
        self.told(LINES, FROM_FIRST[:2] + (((), good, (), ()),), False)

    def test_keys_of_rows(self):
        def triple(*some):
            return FROM_LAST[:2] + (((), tuple(((("r", key), (n,))) for key, n in some), (), ()),)

        for some, expected in (
            ((), True), ((("", 1),), True), ((("a", 1), ("c", 3)), True), ((("", 9), ("a", 1), ("c", 3)), True),
            ((("c", 3), ("a", 1)), False), ((("b", 1),), False), (((0, 1),), False), ((("a", 5),), False),
            ((("a", 1), ("b", 1)), False), ((("a", 1), ("a", 1)), False), ((("a", 10),), False),
        ):
            self.told(LINES, triple(*some), expected)

    def test_strangers_in_every_place(self):
        for versions, good in ((SHORT, (0, TURNED[0], ((), (((), (37,)),), (((), (9,)),), ()))), (LINES, FROM_LAST),
                               (LINES, FROM_FIRST)):
            told = {True: 0, False: 0}
            for place in places(good):
                for other in STRANGERS + (good,):
                    triple = put_at(good, place, other)
                    # What is right kept is what is kept of the views that it tells.
                    answer = is_kept(versions, triple)
                    if answer:
                        views = views_of(versions, triple)
                        self.assertIs(plain_are_views(versions, views), True)
                        self.assertEqual(plain_kept(versions, views, triple[0]), triple)
                    told[answer] += 1
            self.assertGreater(told[True], 5)
            self.assertGreater(told[False], 400)

    def test_just_one_of_all_tells_its_views(self):
        two = ("number", 0, 2)
        versions = Versions(record(n=two), [((), ("turn", "n", ("scale", 2))), ((), ("put", "x", ("number", 0, 1), 0))])
        kinds = [all_values(versions.shape(number)) for number in range(3)]
        every = [list(views) for views in itertools.product(*kinds) if plain_are_views(versions, views)]
        self.assertEqual(len(every), 10)
        some = [()] + [(((), values),) for values in ((), (0,), (1,), (2,), (3,), (4,), (5,))]
        for home in range(3):
            found = [(home, one, spares) for one in kinds[home] for spares in itertools.product(some, repeat=3)
                     if is_kept(versions, (home, one, spares))]
            self.assertEqual(sorted(found), sorted(kept_of(versions, views, home) for views in every))
            self.assertEqual(sorted(views_of(versions, triple) for triple in found), sorted(every))

    def test_of_all_pieces_and_turns(self):
        told = {True: 0, False: 0}
        for sample in SAMPLES:
            versions = Versions(sample.shape, [sample.change])
            for one in sample.records[:2]:
                for other in sample.others:
                    # Whatever new values others have at the same spots: fitting ones alone are spares.
                    spares = other_spares(versions, one, other)
                    expected = plain_are_views(versions, [one, with_spares(versions, one, spares)])
                    self.told(versions, (0, one, ((), spares)), expected)
                    told[expected] += 1
        self.assertGreater(min(told.values()), 300)

    def test_of_other_versions(self):
        for triple in (FROM_FIRST, FROM_LAST):
            self.told(LINES, triple, True)
            self.told(SHORT, triple, False)
            self.told(ALL, triple, False)
        self.told(ALL, (0, RECORD, ((),) * 21), True)
        self.told(ALL, (0, RECORD, ((),) * 20), False)
        self.told(ALL, (0, RECORD, ((),) * 22), False)
        self.told(ALL, (20, RECORD, ((),) * 21), False)


if __name__ == "__main__":
    unittest.main()
