"""Records led by changes: [5.2], [5.3], [5.4], with [2.2], [2.3], [4.3] and of the head [0.2], [0.3]."""

import unittest

from oldhands.changes import change_about, shape_behind
from oldhands.leading import led, lost, restored, twin_record
from oldhands.pieces import made_values, old_values, piece_about, record_behind, with_new
from oldhands.shapes import kind_at
from oldhands.values import is_of
from samples import items, rec, record, rows
from ways import WAYS, all_changes, plain_places, plain_with

SAMPLES = all_changes()

NUMBER = ("number", -9, 9)
TEXT = ("text", 5)
CHOICE = ("choice", ("red", "blue"))
BOX = record(b=CHOICE)
LINE = record(a=NUMBER, f=TEXT, g=TEXT, m=BOX, p=("number", -3, 2), q=("number", 0, 2))
ONE = rec(a=7, f="x-y", g="q", m=rec(b="red"), p=-3, q=1)
TWO = rec(a=-8, f="ab-", g="", m=rec(b="blue"), p=2, q=2)


def line(base, gone="", **come):
    """A line without some fields and with others."""
    return rec(**{**{name: value for name, value in base[1] if name not in gone}, **come})


# Pieces, what they make of the lines, and what of these is led back.
LED = (
    (("put", "x", TEXT, "new"), line(ONE, x="new"), line(TWO, x="new"), ONE, TWO),
    (("drop", "a", 7), line(ONE, "a"), line(TWO, "a"), ONE, line(TWO, a=7)),
    (("name", "f", "z"), line(ONE, "f", z="x-y"), line(TWO, "f", z="ab-"), ONE, TWO),
    (("sink", "a", "m"), line(ONE, "a", m=rec(a=7, b="red")), line(TWO, "a", m=rec(a=-8, b="blue")), ONE, TWO),
    (("lift", "m", "b"), line(ONE, m=rec(), b="red"), line(TWO, m=rec(), b="blue"), ONE, TWO),
    (("turn", "a", ("bounds", -5, 5)), line(ONE, a=5), line(TWO, a=-5), line(ONE, a=5), line(TWO, a=-5)),
    (("turn", "f", ("cut", 3)), line(ONE, f="x-y"), line(TWO, f="ab-"), ONE, TWO),
    (("turn", "g", ("one", 2)), line(ONE, g=items("q")), line(TWO, g=items("")), ONE, TWO),
    (("split", "f", "-", "h", "i"), line(ONE, "f", h="x", i="y"), line(TWO, "f", h="ab", i=""), ONE,
     line(TWO, f="ab")),
    (("join", "f", "g", "-", "h"), line(ONE, "fg", h="x-y-q"), line(TWO, "fg", h="ab"), line(ONE, f="x", g="y-q"),
     line(TWO, f="ab")),
    (("part", "a", 3, "r", "s"), line(ONE, "a", r=2, s=1), line(TWO, "a", r=-3, s=1), ONE, TWO),
    (("whole", "p", "q", 3, "n", -7, 7), line(ONE, "pq", n=-7), line(TWO, "pq", n=7), line(ONE, p=-3, q=2),
     line(TWO, p=2, q=1)),
)
# The ways in which the shapes behind these are not too deep.
SHALLOW = ("top", "field", "list", "numbers", "texts")


def plain_led(change, kind, record):
    """The record with the piece done at each of its spots."""
    path, piece = change
    spot = kind_at(kind, path)
    return plain_with(record, path, lambda one: with_new(piece, spot, one, made_values(piece, spot,
                                                                                      old_values(piece, one))))


def plain_lost(change, kind, record):
    """The spots whose old values are others there and back, with these."""
    path, piece = change
    spot = kind_at(kind, path)
    about, behind = piece_about(piece, spot), record_behind(piece, spot)
    found = []
    for where, one in plain_places(kind, record, path).items():
        old = old_values(piece, one)
        if made_values(about, behind, made_values(piece, spot, old)) != old:
            found.append((where, old))
    return found


class LeadingTest(unittest.TestCase):
    def each(self):
        for sample in SAMPLES:
            for elder in sample.records:
                with self.subTest(way=sample.name, change=sample.change, elder=elder):
                    yield sample, sample.change, sample.shape, elder

    def test_the_samples(self):
        self.assertEqual({sample.name for sample in SAMPLES}, set(WAYS))
        for sample in SAMPLES:
            for elder in sample.records:
                self.assertIs(is_of(elder, sample.shape), True)
            for other in sample.others:
                self.assertIs(is_of(other, sample.behind), True)


class LedTest(LeadingTest):
    def test_every_piece_at_the_spots_of_each_way(self):
        for piece, one, two, one_back, two_back in LED:
            for name in SHALLOW:
                way = WAYS[name]
                shape, change = way.shape(LINE), (way.path, piece)
                behind, about = shape_behind(change, shape), change_about(change, shape)
                for some, there, back in (
                    ([ONE], [one], [one_back]), ([TWO], [two], [two_back]), ([], [], []),
                    ([ONE, TWO], [one, two], [one_back, two_back]),
                    ([TWO, TWO, ONE, TWO], [two, two, one, two], [two_back, two_back, one_back, two_back]),
                ):
                    if len(some) in way.many:
                        with self.subTest(piece=piece, way=name, some=some):
                            self.assertEqual(led(change, shape, way.record(some)), way.record(there))
                            self.assertEqual(led(about, behind, way.record(there)), way.record(back))
                            self.assertEqual(twin_record(change, shape, way.record(some)), way.record(back))

    def test_one_within_another(self):
        kind = record(l=("list", ("rows", "k", record(k=TEXT, n=NUMBER), 3), 3), n=NUMBER)
        elder = rec(l=items(rows(rec(k="a", n=1), rec(k="b", n=-9)), rows(), rows(rec(k="a", n=2))), n=9)
        change = (("l", "each", "each"), ("turn", "n", ("bounds", 0, 1)))
        there = rec(l=items(rows(rec(k="a", n=1), rec(k="b", n=0)), rows(), rows(rec(k="a", n=1))), n=9)
        self.assertEqual(led(change, kind, elder), there)
        self.assertEqual(led(change_about(change, kind), shape_behind(change, kind), there), there)
        self.assertEqual(lost(change, kind, elder), [(("l", 0, "b"), (-9,)), (("l", 2, "a"), (2,))])
        self.assertEqual(restored(change, kind, there, lost(change, kind, elder)), elder)

    def test_the_field_of_a_record_amid(self):
        kind = record(e=record(e=record(n=NUMBER), n=NUMBER), n=NUMBER)
        elder = rec(e=rec(e=rec(n=1), n=2), n=3)
        for path, there in (((), rec(e=rec(e=rec(n=1), n=2))), (("e",), rec(e=rec(e=rec(n=1)), n=3)),
                            (("e", "e"), rec(e=rec(e=rec(), n=2), n=3))):
            self.assertEqual(led((path, ("drop", "n", 0)), kind, elder), there)

    def test_no_spot_stays_as_it_is(self):
        kind = record(l=("list", ("list", record(n=NUMBER), 2), 2), n=NUMBER)
        change = (("l", "each", "each"), ("drop", "n", 0))
        for elder in (rec(l=items(), n=4), rec(l=items(items()), n=4), rec(l=items(items(), items()), n=4)):
            self.assertEqual(led(change, kind, elder), elder)
            self.assertEqual(twin_record(change, kind, elder), elder)
            self.assertEqual(lost(change, kind, elder), [])
            self.assertEqual(restored(change, kind, elder, []), elder)

    def test_all_pieces_and_turns(self):
        for sample, change, shape, elder in self.each():
            there = led(change, shape, elder)
            self.assertEqual(there, plain_led(change, shape, elder))
            self.assertIs(is_of(there, sample.behind), True)
            self.assertEqual(led(change, shape, elder), there)

    def test_there_back_and_there(self):
        for sample, change, shape, elder in self.each():
            there = led(change, shape, elder)
            back = led(sample.about, sample.behind, there)
            self.assertIs(is_of(back, shape), True)
            self.assertEqual(back, plain_led(sample.about, sample.behind, there))
            self.assertEqual(led(change, shape, back), there)

    def test_back_there_and_back(self):
        for sample in SAMPLES:
            about = sample.about
            for other in sample.others:
                back = led(about, sample.behind, other)
                with self.subTest(change=sample.change, other=other):
                    self.assertEqual(back, plain_led(about, sample.behind, other))
                    self.assertEqual(led(about, sample.behind, led(sample.change, sample.shape, back)), back)


class LostTest(LeadingTest):
    def told(self, change, shape, elder, expected):
        with self.subTest(change=change, elder=elder):
            some = lost(change, shape, elder)
            self.assertIsInstance(some, list)
            self.assertEqual(some, expected)
            self.assertEqual(restored(change, shape, led(change, shape, elder), some), elder)

    def test_at_none_some_and_all_spots_of_a_list(self):
        kind = record(l=("list", record(n=NUMBER), 4))
        change = (("l", "each"), ("turn", "n", ("bounds", 0, 5)))
        for numbers, expected in (
            ((), []), ((0, 5, 3), []), ((6,), [(("l", 0), (6,))]),
            ((1, 9, 5, -1), [(("l", 1), (9,)), (("l", 3), (-1,))]),
            ((9, 8, 7, 6), [(("l", at), (9 - at,)) for at in range(4)]), ((7, 7), [(("l", 0), (7,)), (("l", 1), (7,))]),
        ):
            self.told(change, kind, rec(l=items(*[rec(n=number) for number in numbers])), expected)

    def test_by_keys_of_rows(self):
        by_number = record(r=("rows", "k", record(k=NUMBER, t=TEXT), 4))
        change = (("r", "each"), ("drop", "t", "z"))
        elder = rec(r=rows(*[rec(k=key, t=text) for key, text in ((-9, "a"), (-1, "z"), (0, ""), (9, "b"))]))
        self.told(change, by_number, elder, [(("r", -9), ("a",)), (("r", 0), ("",)), (("r", 9), ("b",))])
        by_text = record(r=("rows", "t", record(k=NUMBER, t=TEXT), 4))
        change = (("r", "each"), ("drop", "k", 1))
        elder = rec(r=rows(*[rec(k=key, t=text) for key, text in ((1, ""), (2, "10"), (1, "9"), (3, "r"))]))
        self.told(change, by_text, elder, [(("r", "10"), (2,)), (("r", "r"), (3,))])

    def test_at_the_empty_path_and_in_a_record(self):
        kind = record(f=TEXT, g=TEXT)
        change = ((), ("join", "f", "g", "-", "h"))
        self.told(change, kind, rec(f="a", g="b"), [])
        self.told(change, kind, rec(f="a-", g="b"), [((), ("a-", "b"))])
        self.told(change, kind, rec(f="abc", g="def"), [((), ("abc", "def"))])
        self.told((("e",), ("join", "g", "f", "-", "h")), record(e=kind), rec(e=rec(f="a", g="b-")),
                  [(("e",), ("b-", "a"))])

    def test_both_old_values_are_told(self):
        kind = record(p=("number", -3, 2), q=("number", 0, 2))
        change = ((), ("whole", "p", "q", 3, "n", -7, 7))
        self.told(change, kind, rec(p=-3, q=1), [((), (-3, 1))])
        self.told(change, kind, rec(p=-3, q=2), [])
        self.told(change, kind, rec(p=2, q=2), [((), (2, 2))])
        self.told(change, kind, rec(p=2, q=1), [])

    def test_what_never_loses(self):
        kind = record(a=NUMBER, m=record(b=TEXT))
        elder = rec(a=-7, m=rec(b="q"))
        for piece in (("put", "x", TEXT, "v"), ("name", "a", "x"), ("sink", "a", "m"), ("lift", "m", "b"),
                      ("part", "a", 4, "x", "y"), ("turn", "a", ("scale", 3)), ("turn", "a", ("figures", 2)),
                      ("turn", "m", ("one", 1))):
            self.told(((), piece), kind, elder, [])

    def test_of_all_pieces_and_turns(self):
        many = 0
        for sample, change, shape, elder in self.each():
            some = lost(change, shape, elder)
            self.assertEqual(some, plain_lost(change, shape, elder))
            many += len(some)
        self.assertGreater(many, 1000)

    def test_restored_of_all(self):
        for sample, change, shape, elder in self.each():
            some = lost(change, shape, elder)
            there = led(change, shape, elder)
            self.assertEqual(restored(change, shape, there, some), elder)
            self.assertEqual(restored(change, shape, there, tuple(reversed(some))), elder)

    def test_restored_of_all_led_back(self):
        for sample in SAMPLES:
            about = sample.about
            for other in sample.others:
                some = lost(about, sample.behind, other)
                with self.subTest(change=sample.change, other=other):
                    self.assertEqual(some, plain_lost(about, sample.behind, other))
                    self.assertEqual(restored(about, sample.behind, led(about, sample.behind, other), some), other)

    def test_none_of_the_lost_is_idle(self):
        # With one of them left out its spot is as the twin has it.
        for sample, change, shape, elder in self.each():
            some = lost(change, shape, elder)
            twin = plain_places(shape, twin_record(change, shape, elder), change[0])
            if some:
                where = some.pop(len(some) // 2)[0]
                back = restored(change, shape, led(change, shape, elder), some)
                self.assertEqual(plain_places(shape, back, change[0])[where], twin[where])
                self.assertNotEqual(back, elder)

    def test_what_is_told_is_the_askers_own(self):
        kind = record(l=("list", record(n=NUMBER), 4))
        change = (("l", "each"), ("drop", "n", 0))
        elder = rec(l=items(rec(n=1), rec(n=2)))
        expected = [(("l", 0), (1,)), (("l", 1), (2,))]
        first = lost(change, kind, elder)
        first.clear()
        second = lost(change, kind, elder)
        self.assertEqual(second, expected)
        back = restored(change, kind, led(change, kind, elder), second)
        self.assertEqual(second, expected)
        second.pop()
        self.assertEqual(back, elder)


class TwinTest(LeadingTest):
    def test_led_there_alike_and_another_just_where_something_is_lost(self):
        for sample, change, shape, elder in self.each():
            twin = twin_record(change, shape, elder)
            there = led(change, shape, elder)
            self.assertEqual(twin, led(sample.about, sample.behind, there))
            self.assertIs(is_of(twin, shape), True)
            self.assertEqual(led(change, shape, twin), there)
            ours, theirs = (plain_places(shape, one, change[0]) for one in (elder, twin))
            some = lost(change, shape, elder)
            self.assertEqual([where for where in ours if ours[where] != theirs[where]], [where for where, old in some])
            self.assertEqual(twin == elder, some == [])
            self.assertEqual(twin_record(change, shape, twin), twin)
            self.assertEqual(lost(change, shape, twin), [])


if __name__ == "__main__":
    unittest.main()
