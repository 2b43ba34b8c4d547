"""Views of versions, and writes beside them: [8.1], [8.2], [8.3], with [0.2], [0.3], [0.4]."""

import itertools
import random
import unittest

from oldhands.errors import BadValue, BadVersion
from oldhands.pieces import new_values, old_values
from oldhands.shapes import kind_at
from oldhands.steps import step
from oldhands.values import is_of
from oldhands.versions import Versions
from oldhands.views import are_views, begun_views, turned_stretch, written
from chains import (
    ALL, CHURN, RECORD, SHAPES, drawn_views, drawn_write, outward, plain_are_views, plain_begun, plain_written,
    there_and_back, to_next,
)
from samples import all_values, items, places, put_at, rec, record, rows, some_value
from ways import all_changes, plain_places, plain_values_fit

NUMBER = ("number", 0, 9)
TEXT = ("text", 3)
SHORT = Versions(record(n=NUMBER, t=TEXT), [
    ((), ("turn", "n", ("scale", 10))), ((), ("put", "x", NUMBER, 4)), ((), ("drop", "t", "zz")),
])
# Begun by n 37 and t "ab" at version 1.
BEGUN = [rec(n=3, t="ab"), rec(n=37, t="ab"), rec(n=37, t="ab", x=4), rec(n=37, x=4)]
LINES = Versions(record(l=("list", record(n=NUMBER), 3), r=("rows", "k", record(k=TEXT, n=NUMBER), 3)), [
    (("l", "each"), ("turn", "n", ("scale", 10))), (("r", "each"), ("drop", "n", 5)),
])
SAMPLES = all_changes(3)
NO_VERSIONS = (-1, -2, -4, 4, 5, 10 ** 30, -10 ** 30)


def numbers(*some):
    return items(*[rec(n=one) for one in some])


def table(**some):
    return rows(*[rec(k=key, n=one) for key, one in sorted(some.items())])


def keys(some):
    return rows(*[rec(k=key) for key in some])


def drawn_writes(versions, seed, many, signs="ab-.1"):
    """Views with a version and a record to be written there."""
    chance = random.Random(seed)
    for at in range(many):
        views = drawn_views(versions, chance.randrange(10 ** 9), 4, signs)
        number, one = drawn_write(versions, views, chance, signs)
        yield views, number, one


def sample_writes(sample):
    """The versions there and back of a sample, with views and a version and a record to be written there."""
    versions = there_and_back(sample)
    for at, one in enumerate(sample.records):
        other = sample.others[-1 - at % len(sample.others)]
        views = plain_written(versions, plain_begun(versions, 0, one), 3, other)[0]
        for number in (at % 4, (at + 3) % 4):
            some = (sample.records, sample.others)[number % 2]
            yield versions, views, number, some[(at + 1) % len(some)]


class ViewsTest(unittest.TestCase):
    def refused(self, refusal, do, *arguments):
        for again in range(2):
            with self.subTest(arguments=arguments), self.assertRaises(refusal) as caught:
                do(*arguments)
            self.assertIs(type(caught.exception), refusal)


class BegunTest(ViewsTest):
    def test_led_outward(self):
        for number, one, expected in (
            (1, rec(n=37, t="ab"), BEGUN),
            (0, rec(n=3, t="ab"), [rec(n=3, t="ab"), rec(n=30, t="ab"), rec(n=30, t="ab", x=4), rec(n=30, x=4)]),
            (2, rec(n=90, t="", x=0), [rec(n=9, t=""), rec(n=90, t=""), rec(n=90, t="", x=0), rec(n=90, x=0)]),
            (3, rec(n=19, x=1), [rec(n=1, t="zz"), rec(n=19, t="zz"), rec(n=19, t="zz", x=1), rec(n=19, x=1)]),
        ):
            with self.subTest(number=number):
                for again in range(2):
                    views = begun_views(SHORT, number, one)
                    self.assertIsInstance(views, list)
                    self.assertEqual(views, expected)
                    self.assertIs(are_views(SHORT, views), True)
                    # What is told is the asker's own.
                    views.clear()

    def test_of_one_version(self):
        versions = Versions(SHAPES[0], [])
        self.assertEqual(begun_views(versions, 0, RECORD), [RECORD])
        self.assertEqual(begun_views(Versions(record(), []), 0, rec()), [rec()])

    def test_of_all_versions(self):
        for number in range(21):
            chance = random.Random(number)
            for at in range(4):
                one = some_value(SHAPES[number], chance)
                views = begun_views(ALL, number, one)
                self.assertEqual(views, plain_begun(ALL, number, one))
                self.assertEqual(views[number], one)
                self.assertIs(plain_are_views(ALL, views), True)
                self.assertIs(are_views(ALL, views), True)

    def test_of_all_pieces_and_turns(self):
        for sample in SAMPLES:
            versions = there_and_back(sample)
            for number in range(4):
                one = (sample.records, sample.others)[number % 2][0]
                views = begun_views(versions, number, one)
                self.assertEqual(views, plain_begun(versions, number, one))
                self.assertIs(are_views(versions, views), True)

    def test_refused(self):
        for number in NO_VERSIONS:
            # Ahead of what is no record, too.
            for one in (BEGUN[0], BEGUN[-1], rec(), 0, "", ()):
                self.refused(BadVersion, begun_views, SHORT, number, one)
        for number in range(4):
            for one in BEGUN[:number] + BEGUN[number + 1:] + [rec(), 0, "", (), ("record",), items(), BEGUN[number][1]]:
                if not is_of(one, SHORT.shape(number)):
                    self.refused(BadValue, begun_views, SHORT, number, one)
        self.refused(BadValue, begun_views, SHORT, 1, rec(n=91, t="ab"))
        self.refused(BadValue, begun_views, SHORT, 0, rec(n=10, t="ab"))
        self.refused(BadValue, begun_views, SHORT, 3, rec(n=10, t="ab", x=1))


class WrittenTest(ViewsTest):
    def written(self, versions, views, number, one, expected, stretch):
        with self.subTest(number=number, one=one):
            before = list(views)
            for handed in (views, tuple(views)):
                after = written(versions, handed, number, one)
                self.assertIsInstance(after, list)
                self.assertEqual(after, expected)
            self.assertEqual(views, before)
            self.assertIs(are_views(versions, after), True)
            self.assertEqual(turned_stretch(before, after), stretch)
        return after

    def test_one_after_the_other(self):
        views = BEGUN
        for number, one, expected, stretch in (
            # What is written at the last one keeps what the elder ones have and it has not.
            (3, rec(n=37, x=9), [rec(n=3, t="ab"), rec(n=37, t="ab"), rec(n=37, t="ab", x=9), rec(n=37, x=9)], (2, 3)),
            # The last one doesn't know t: it stays.
            (0, rec(n=3, t="cd"), [rec(n=3, t="cd"), rec(n=37, t="cd"), rec(n=37, t="cd", x=9), rec(n=37, x=9)],
             (0, 2)),
            (1, rec(n=37, t="e"), [rec(n=3, t="e"), rec(n=37, t="e"), rec(n=37, t="e", x=9), rec(n=37, x=9)], (0, 2)),
            # Within the ten of 3 the first one stays.
            (2, rec(n=32, t="e", x=9), [rec(n=3, t="e"), rec(n=32, t="e"), rec(n=32, t="e", x=9), rec(n=32, x=9)],
             (1, 3)),
            (2, rec(n=32, t="e", x=9), [rec(n=3, t="e"), rec(n=32, t="e"), rec(n=32, t="e", x=9), rec(n=32, x=9)],
             None),
            (0, rec(n=4, t="e"), [rec(n=4, t="e"), rec(n=40, t="e"), rec(n=40, t="e", x=9), rec(n=40, x=9)], (0, 3)),
            (3, rec(n=49, x=9), [rec(n=4, t="e"), rec(n=49, t="e"), rec(n=49, t="e", x=9), rec(n=49, x=9)], (1, 3)),
            (3, rec(n=50, x=9), [rec(n=5, t="e"), rec(n=50, t="e"), rec(n=50, t="e", x=9), rec(n=50, x=9)], (0, 3)),
            (2, rec(n=50, t="e", x=0), [rec(n=5, t="e"), rec(n=50, t="e"), rec(n=50, t="e", x=0), rec(n=50, x=0)],
             (2, 3)),
            (2, rec(n=50, t="", x=0), [rec(n=5, t=""), rec(n=50, t=""), rec(n=50, t="", x=0), rec(n=50, x=0)], (0, 2)),
        ):
            views = self.written(SHORT, views, number, one, expected, stretch)

    def test_items_by_number_and_by_key(self):
        views = [
            rec(l=numbers(1, 2), r=table(a=1, c=3)), rec(l=numbers(15, 26), r=table(a=1, c=3)),
            rec(l=numbers(15, 26), r=keys("ac")),
        ]
        self.assertIs(are_views(LINES, views), True)
        # A row of a key that the elder ones have not gets what the drop tells; those that they have stay.
        views = self.written(LINES, views, 2, rec(l=numbers(15, 26), r=keys("abc")), [
            rec(l=numbers(1, 2), r=table(a=1, b=5, c=3)), rec(l=numbers(15, 26), r=table(a=1, b=5, c=3)),
            rec(l=numbers(15, 26), r=keys("abc")),
        ], (0, 2))
        # An item taken out: the others are looked at by their numbers.
        views = self.written(LINES, views, 0, rec(l=numbers(2), r=table(b=6, c=3)), [
            rec(l=numbers(2), r=table(b=6, c=3)), rec(l=numbers(20), r=table(b=6, c=3)),
            rec(l=numbers(20), r=keys("bc")),
        ], (0, 2))
        self.written(LINES, views, 0, rec(l=numbers(2), r=table(b=6, c=4)), [
            rec(l=numbers(2), r=table(b=6, c=4)), rec(l=numbers(20), r=table(b=6, c=4)),
            rec(l=numbers(20), r=keys("bc")),
        ], (0, 1))

    def test_amid_the_first_and_the_last(self):
        versions = Versions(record(n=NUMBER), [((), ("turn", "n", ("scale", 10))), ((), ("turn", "n", ("shrink", 10)))])
        views = begun_views(versions, 0, rec(n=4))
        self.assertEqual(views, [rec(n=4), rec(n=40), rec(n=4)])
        self.written(versions, views, 1, rec(n=47), [rec(n=4), rec(n=47), rec(n=4)], (1, 1))
        self.written(versions, views, 2, rec(n=5), [rec(n=5), rec(n=50), rec(n=5)], (0, 2))

    def test_of_one_version(self):
        versions = Versions(record(n=NUMBER), [])
        self.written(versions, [rec(n=1)], 0, rec(n=2), [rec(n=2)], (0, 0))
        self.written(versions, [rec(n=1)], 0, rec(n=1), [rec(n=1)], None)

    def test_against_the_documents_words(self):
        for versions in (ALL, CHURN):
            stretches = set()
            for views, number, one in drawn_writes(versions, 1, 100):
                after = written(versions, views, number, one)
                self.assertEqual(after, plain_written(versions, views, number, one)[0])
                self.looks_at(versions, views, number, one, after)
                stretches.add(turned_stretch(views, after))
            self.assertGreater(len(stretches), 6)

    def test_of_all_pieces_and_turns(self):
        for sample in SAMPLES:
            for versions, views, number, one in sample_writes(sample):
                after = written(versions, views, number, one)
                self.assertEqual(after, plain_written(versions, views, number, one)[0])
                self.looks_at(versions, views, number, one, after)

    def looks_at(self, versions, views, number, one, after):
        """What the document says of all writes."""
        self.assertIs(plain_are_views(versions, after), True)
        self.assertEqual(after[number], one)
        unlike = [own for own in range(len(views)) if views[own] != after[own]]
        if one == views[number]:
            self.assertEqual(unlike, [])
        if unlike:
            self.assertIn(number, unlike)
            self.assertEqual(unlike, list(range(unlike[0], unlike[-1] + 1)))
        self.assertEqual(turned_stretch(views, after), (unlike[0], unlike[-1]) if unlike else None)
        for near, far in outward(versions, number):
            (path, piece), shape = to_next(versions, near, far)
            before, now = (plain_places(versions.shape(far), some[far], path) for some in (views, after))
            for where, spot in plain_places(shape, after[near], path).items():
                old = old_values(piece, spot)
                if where in before:
                    new = new_values(piece, before[where])
                    if plain_values_fit(piece, kind_at(shape, path), old, new):
                        self.assertEqual(new_values(piece, now[where]), new)

    def test_what_is_there_turns_none(self):
        for seed in range(20):
            views = drawn_views(ALL, seed)
            for number in range(21):
                self.assertEqual(written(ALL, views, number, views[number]), views)

    def test_written_twice_is_written_once(self):
        for views, number, one in drawn_writes(ALL, 2, 20):
            after = written(ALL, views, number, one)
            self.assertEqual(written(ALL, after, number, one), after)

    def test_the_same_each_time_and_the_askers_own(self):
        views = list(BEGUN)
        first = written(SHORT, views, 0, rec(n=4, t="q"))
        kept = list(first)
        first.clear()
        views[2] = rec(n=1, t="", x=1)
        self.assertEqual(written(SHORT, BEGUN, 0, rec(n=4, t="q")), kept)
        self.assertEqual(kept[2], rec(n=40, t="q", x=4))

    def test_refused(self):
        for number in NO_VERSIONS:
            # Ahead of what is no record, too.
            for one in (BEGUN[0], BEGUN[-1], rec(), 0, "", ()):
                self.refused(BadVersion, written, SHORT, BEGUN, number, one)
        for number in range(4):
            for one in BEGUN[:number] + BEGUN[number + 1:] + [rec(), 0, "", (), ("record",), items(), BEGUN[number][1]]:
                if not is_of(one, SHORT.shape(number)):
                    self.refused(BadValue, written, SHORT, BEGUN, number, one)
        self.refused(BadValue, written, SHORT, BEGUN, 1, rec(n=91, t="ab"))
        self.refused(BadValue, written, SHORT, BEGUN, 0, rec(n=10, t="ab"))
        self.refused(BadValue, written, SHORT, BEGUN, 0, rec(n=1, t="abcd"))


class AreViewsTest(ViewsTest):
    def told(self, versions, views, expected):
        with self.subTest(views=views):
            self.assertIs(plain_are_views(versions, views), expected)
            for handed in (list(views), tuple(views)):
                self.assertIs(are_views(versions, handed), expected)

    def test_neighbours_fit(self):
        self.told(SHORT, BEGUN, True)
        for number, one, expected in (
            (0, rec(n=3, t="ab"), True), (0, rec(n=4, t="ab"), False), (0, rec(n=3, t="a"), False),
            (1, rec(n=30, t="ab"), False), (1, rec(n=37, t=""), False),
            (2, rec(n=37, t="ab", x=5), False), (2, rec(n=37, t="b", x=4), False), (2, rec(n=3, t="ab", x=4), False),
            (3, rec(n=37, x=4), True), (3, rec(n=37, x=5), False), (3, rec(n=30, x=4), False),
        ):
            self.told(SHORT, BEGUN[:number] + [one] + BEGUN[number + 1:], expected)
        # What only some of them have is free, as long as these have it alike.
        self.told(SHORT, [rec(n=3, t=""), rec(n=39, t=""), rec(n=39, t="", x=0), rec(n=39, x=0)], True)
        self.told(SHORT, [rec(n=3, t=""), rec(n=40, t=""), rec(n=40, t="", x=0), rec(n=40, x=0)], False)

    def test_too_few_and_too_many(self):
        self.told(SHORT, [], False)
        for many in range(4):
            self.told(SHORT, BEGUN[:many], False)
            self.told(SHORT, BEGUN[many + 1:], False)
            self.told(SHORT, BEGUN[:many] + BEGUN[many + 1:], False)
            self.told(SHORT, BEGUN + BEGUN[many:], False)
        one = Versions(record(n=NUMBER), [])
        self.told(one, [rec(n=1)], True)
        self.told(one, [], False)
        self.told(one, [rec(n=1), rec(n=1)], False)

    def test_another_order(self):
        for some in itertools.permutations(BEGUN):
            self.told(SHORT, list(some), list(some) == BEGUN)

    def test_what_is_no_record_of_the_shape(self):
        for number in range(4):
            for place in places(BEGUN[number]):
                for other in (-1, 91, 10 ** 30, "each", "abcd", "n", (), ("record", ()), ("list", ()), ("rows", ()),
                              (0,), ((),), "record", BEGUN[number], BEGUN[number][1]):
                    one = put_at(BEGUN[number], place, other)
                    if one != BEGUN[number]:
                        self.told(SHORT, BEGUN[:number] + [one] + BEGUN[number + 1:], False)

    def test_all_of_a_small_kind(self):
        bit = ("number", 0, 2)
        versions = Versions(record(n=bit), [((), ("turn", "n", ("scale", 2))), ((), ("turn", "n", ("bounds", 1, 3)))])
        told = {True: 0, False: 0}
        for views in itertools.product(*[all_values(versions.shape(number)) for number in range(3)]):
            told[are_views(versions, list(views))] += 1
            self.told(versions, list(views), plain_are_views(versions, views))
        # By hand: 0 0 1, 0 1 1, 1 2 2, 1 3 3, 2 4 3.
        self.assertEqual(told, {True: 5, False: 40})

    def test_drawn_ones(self):
        for seed in range(40):
            views = drawn_views(ALL, seed)
            self.told(ALL, views, True)
            chance = random.Random(seed)
            number, one = drawn_write(ALL, views, chance)
            other = views[:number] + [one] + views[number + 1:]
            self.told(ALL, other, plain_are_views(ALL, other))

    def test_of_all_pieces_and_turns(self):
        told = {True: 0, False: 0}
        for sample in SAMPLES:
            versions = Versions(sample.shape, [sample.change])
            for one in sample.records:
                for other in sample.others[:2] + [step(sample.change, sample.shape, one, sample.others[-1])]:
                    expected = plain_are_views(versions, [one, other])
                    self.told(versions, [one, other], expected)
                    told[expected] += 1
        self.assertGreater(min(told.values()), 400)


class StretchTest(unittest.TestCase):
    def test_first_and_last_that_are_unlike(self):
        for unlike, expected in (("", None), ("0", (0, 0)), ("3", (3, 3)), ("12", (1, 2)), ("0123", (0, 3)),
                                 ("03", (0, 3)), ("02", (0, 2)), ("2", (2, 2)), ("23", (2, 3))):
            after = [rec(n=0) if str(number) in unlike else one for number, one in enumerate(BEGUN)]
            for before, behind in ((list(BEGUN), after), (tuple(BEGUN), tuple(after)), (after, list(BEGUN))):
                self.assertEqual(turned_stretch(before, behind), expected)

    def test_nothing_handed_in_is_changed(self):
        before, after = list(BEGUN), list(reversed(BEGUN))
        self.assertEqual(turned_stretch(before, after), (0, 3))
        self.assertEqual((before, after), (BEGUN, BEGUN[::-1]))


if __name__ == "__main__":
    unittest.main()
