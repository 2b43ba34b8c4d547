"""Pieces of a record: [4.1], [4.2], [4.3]."""

import unittest

from oldhands.errors import BadKind, BadPiece, BadTurn
from oldhands.kinds import made_kind
from oldhands.pieces import made_values, new_values, old_values, piece_about, record_behind, with_new
from oldhands.turns import kind_behind, turned
from oldhands.values import is_of
from samples import all_values, deep, items, letters, places, put_at, rec, record, rows

TOP = 10 ** 30
NUMBER = ("number", -7, 7)
TEXT = ("text", 3)
CHOICE = ("choice", ("red", "blue"))
BOX = record(a=CHOICE, z=CHOICE)
# Each of the pieces below is good for a record kind of these fields.
ELDER = record(c=CHOICE, f=TEXT, g=TEXT, n=NUMBER, r=BOX)
PARTS = record(c=CHOICE, p=("number", -3, 2), q=("number", 0, 2))

# Pieces, the elder kinds, and the kinds behind.
GOOD = (
    (("put", "x", CHOICE, "blue"), ELDER, record(c=CHOICE, f=TEXT, g=TEXT, n=NUMBER, r=BOX, x=CHOICE)),
    (("put", "a", ("list", TEXT, 2), items("q")), record(c=CHOICE), record(a=("list", TEXT, 2), c=CHOICE)),
    (("put", "x", NUMBER, 0), record(), record(x=NUMBER)),
    (("drop", "n", 3), ELDER, record(c=CHOICE, f=TEXT, g=TEXT, r=BOX)),
    (("drop", "r", rec(a="red", z="blue")), ELDER, record(c=CHOICE, f=TEXT, g=TEXT, n=NUMBER)),
    (("drop", "x", ""), record(x=TEXT), record()),
    (("name", "f", "x"), ELDER, record(c=CHOICE, x=TEXT, g=TEXT, n=NUMBER, r=BOX)),
    (("name", "r", "a"), ELDER, record(c=CHOICE, f=TEXT, g=TEXT, n=NUMBER, a=BOX)),
    (("name", "f", "f"), ELDER, ELDER),
    (("sink", "n", "r"), ELDER, record(c=CHOICE, f=TEXT, g=TEXT, r=record(a=CHOICE, n=NUMBER, z=CHOICE))),
    (("sink", "c", "r"), record(c=CHOICE, r=record()), record(r=record(c=CHOICE))),
    (("sink", "s", "r"), record(r=record(), s=record()), record(r=record(s=record()))),
    (("lift", "r", "a"), ELDER, record(a=CHOICE, c=CHOICE, f=TEXT, g=TEXT, n=NUMBER, r=record(z=CHOICE))),
    (("lift", "r", "x"), record(r=record(x=TEXT)), record(r=record(), x=TEXT)),
    (("lift", "r", "x"), record(r=record(x=("list", CHOICE, 2), y=CHOICE)),
     record(r=record(y=CHOICE), x=("list", CHOICE, 2))),
    (("turn", "n", ("bounds", 0, 3)), ELDER, record(c=CHOICE, f=TEXT, g=TEXT, n=("number", 0, 3), r=BOX)),
    (("turn", "f", ("number", -9, 9)), ELDER, record(c=CHOICE, f=("number", -9, 9), g=TEXT, n=NUMBER, r=BOX)),
    (("turn", "r", ("one", 2)), record(c=CHOICE, r=BOX), record(c=CHOICE, r=("list", BOX, 2))),
    (("turn", "c", ("words", ("a", "a"), (("a", "blue"),))), record(c=CHOICE), record(c=("choice", ("a",)))),
    (("split", "f", "-", "x", "y"), ELDER, record(c=CHOICE, g=TEXT, n=NUMBER, r=BOX, x=TEXT, y=TEXT)),
    (("split", "f", "-", "f", "y"), ELDER, record(c=CHOICE, f=TEXT, g=TEXT, n=NUMBER, r=BOX, y=TEXT)),
    (("split", "f", "a", "y", "f"), record(f=TEXT), record(f=TEXT, y=TEXT)),
    (("split", "f", "-", "x", "y"), record(f=("text", 0)), record(x=("text", 0), y=("text", 0))),
    (("join", "f", "g", "-", "x"), ELDER, record(c=CHOICE, n=NUMBER, r=BOX, x=TEXT)),
    (("join", "g", "f", "a", "x"), record(f=TEXT, g=TEXT), record(x=TEXT)),
    (("join", "f", "g", "-", "f"), record(f=TEXT, g=TEXT), record(f=TEXT)),
    (("join", "f", "g", " ", "g"), record(f=TEXT, g=TEXT), record(g=TEXT)),
    (("join", "f", "g", "-", "x"), record(f=("text", 0), g=("text", 0)), record(x=("text", 0))),
    (("join", "f", "g", "-", "x"), record(f=("text", 1), g=("text", 1)), record(x=("text", 1))),
    (("part", "n", 3, "p", "q"), ELDER,
     record(c=CHOICE, f=TEXT, g=TEXT, r=BOX, p=("number", -3, 2), q=("number", 0, 2))),
    (("part", "n", 1000, "n", "q"), record(n=NUMBER), record(n=("number", -1, 0), q=("number", 0, 999))),
    (("part", "n", 2, "p", "n"), record(n=("number", 3, 8)), record(n=("number", 0, 1), p=("number", 1, 4))),
    (("whole", "p", "q", 3, "x", -7, 7), PARTS, record(c=CHOICE, x=NUMBER)),
    (("whole", "p", "q", 3, "q", -9, 8), PARTS, record(c=CHOICE, q=("number", -9, 8))),
    (("whole", "q", "p", 3, "p", -8, 6), record(p=("number", 0, 2), q=("number", -3, 2)), record(p=("number", -8, 6))),
)


def some_records(kind):
    """Records of a kind: each field's values, one field after the other, and all where they are few."""
    every = {name: all_values(inner) for name, inner in kind[1]}
    many = 1
    for some in every.values():
        many *= len(some)
    if many <= 400:
        return all_values(kind)
    first = {name: some[0] for name, some in every.items()}
    last = {name: some[-1] for name, some in every.items()}
    found = []
    for base in (first, last):
        found.extend([rec(**{**base, name: value}) for name, some in every.items() for value in some])
    texts = [name for name, inner in kind[1] if inner == TEXT][:2]
    if len(texts) == 2:
        one, two = texts
        found.extend([rec(**{**last, one: ahead, two: behind}) for ahead in every[one] for behind in every[two]])
    return found


def done(piece, kind, record):
    """The record to which a piece leads a record."""
    return with_new(piece, kind, record, made_values(piece, kind, old_values(piece, record)))


class GoodPiecesTest(unittest.TestCase):
    def test_record_behind(self):
        for piece, kind, behind in GOOD:
            with self.subTest(piece=piece, kind=kind):
                before = repr((piece, kind))
                self.assertEqual(record_behind(piece, kind), behind)
                self.assertEqual(made_kind(record_behind(piece, kind)), behind)
                self.assertEqual(repr((piece, kind)), before)

    def test_what_is_made_is_of_the_kind_behind(self):
        for piece, kind, behind in GOOD:
            some = some_records(kind)
            self.assertTrue(some)
            for elder in some:
                with self.subTest(piece=piece, elder=elder):
                    old = old_values(piece, elder)
                    new = made_values(piece, kind, old)
                    told = with_new(piece, kind, elder, new)
                    self.assertIsInstance(old, tuple)
                    self.assertIsInstance(new, tuple)
                    self.assertIs(is_of(told, behind), True)
                    self.assertEqual(new_values(piece, told), new)
                    self.assertEqual(made_values(piece, kind, list(old)), new)
                    self.assertEqual(with_new(piece, kind, elder, list(new)), told)

    def test_the_piece_about_leads_back(self):
        for piece, kind, behind in GOOD:
            with self.subTest(piece=piece, kind=kind):
                about = piece_about(piece, kind)
                self.assertIsInstance(about, tuple)
                self.assertEqual(record_behind(about, behind), kind)
                self.assertEqual(piece_about(about, behind), piece)

    def test_the_piece_about_takes_what_was_made(self):
        for piece, kind, behind in GOOD:
            about = piece_about(piece, kind)
            for elder in some_records(kind)[:5]:
                told = done(piece, kind, elder)
                with self.subTest(piece=piece, elder=elder):
                    self.assertEqual(old_values(about, told), new_values(piece, told))
                    self.assertEqual(new_values(about, elder), old_values(piece, elder))
                    # With the old values in their place again it is the record as it was.
                    self.assertEqual(with_new(about, behind, told, old_values(piece, elder)), elder)

    def test_there_back_and_there(self):
        for piece, kind, behind in GOOD:
            about = piece_about(piece, kind)
            for elder in some_records(kind):
                with self.subTest(piece=piece, elder=elder):
                    there = done(piece, kind, elder)
                    twin = done(about, behind, there)
                    self.assertIs(is_of(twin, kind), True)
                    self.assertEqual(done(piece, kind, twin), there)

    def test_back_there_and_back(self):
        for piece, kind, behind in GOOD:
            about = piece_about(piece, kind)
            for record_there in some_records(behind):
                with self.subTest(piece=piece, record=record_there):
                    back = done(about, behind, record_there)
                    self.assertEqual(done(about, behind, done(piece, kind, back)), back)

    def test_other_fields_as_they_were(self):
        kind = record(c=CHOICE, f=TEXT, g=TEXT, n=NUMBER, p=("number", -3, 2), q=("number", 0, 2),
                      r=record(a=CHOICE, y=("list", TEXT, 1)))
        elder = rec(c="red", f="a-b", g="-a", n=-5, p=-3, q=2, r=rec(a="blue", y=items("m")))
        for piece, gone, come in (
            (("put", "d", CHOICE, "blue"), "", {"d": "blue"}),
            (("drop", "n", 0), "n", {}),
            (("name", "f", "x"), "f", {"x": "a-b"}),
            (("sink", "c", "r"), "c", {"r": rec(a="blue", c="red", y=items("m"))}),
            (("lift", "r", "y"), "", {"r": rec(a="blue"), "y": items("m")}),
            (("turn", "g", ("cut", 1)), "", {"g": "-"}),
            (("split", "f", "-", "b", "f"), "", {"b": "a", "f": "b"}),
            (("join", "g", "f", "-", "x"), "fg", {"x": "-a-"}),
            (("part", "n", 2, "n", "b"), "", {"n": -3, "b": 1}),
            (("whole", "p", "q", 3, "q", -8, 8), "p", {"q": -7}),
        ):
            with self.subTest(piece=piece):
                record_behind(piece, kind)
                fields = {name: value for name, value in elder[1] if name not in gone}
                self.assertEqual(done(piece, kind, elder), rec(**{**fields, **come}))

    def test_nothing_handed_in_is_changed(self):
        for piece, kind, behind in GOOD:
            for elder in some_records(kind)[:3]:
                old = list(old_values(piece, elder))
                before = repr((piece, kind, elder, old))
                new = list(made_values(piece, kind, old))
                first = with_new(piece, kind, elder, new)
                kept = repr((first, new))
                piece_about(piece, kind)
                self.assertEqual(repr((piece, kind, elder, old)), before)
                self.assertEqual(repr((first, new)), kept)
                self.assertEqual(with_new(piece, kind, elder, new), first)


class EachPieceTest(unittest.TestCase):
    def told(self, piece, kind, elder, old, new, there):
        with self.subTest(piece=piece, elder=elder):
            record_behind(piece, kind)
            self.assertIs(is_of(elder, kind), True)
            self.assertEqual(old_values(piece, elder), old)
            self.assertEqual(made_values(piece, kind, old), new)
            self.assertEqual(with_new(piece, kind, elder, new), there)
            self.assertEqual(new_values(piece, there), new)

    def about(self, piece, kind, about):
        with self.subTest(piece=piece, kind=kind):
            self.assertEqual(piece_about(piece, kind), about)

    def test_put(self):
        self.told(("put", "b", NUMBER, -3), record(a=CHOICE, c=CHOICE), rec(a="red", c="blue"), (), (-3,),
                  rec(a="red", b=-3, c="blue"))
        self.about(("put", "b", NUMBER, -3), record(a=CHOICE), ("drop", "b", -3))
        # Another new value than the one put is put in as well.
        self.assertEqual(with_new(("put", "b", NUMBER, -3), record(a=CHOICE), rec(a="red"), (5,)), rec(a="red", b=5))

    def test_drop(self):
        self.told(("drop", "b", -3), record(a=CHOICE, b=NUMBER), rec(a="red", b=4), (4,), (), rec(a="red"))
        self.about(("drop", "b", -3), record(a=CHOICE, b=NUMBER), ("put", "b", NUMBER, -3))

    def test_name(self):
        kind = record(a=TEXT, c=CHOICE)
        self.told(("name", "a", "z"), kind, rec(a="x", c="red"), ("x",), ("x",), rec(c="red", z="x"))
        self.told(("name", "a", "a"), kind, rec(a="x", c="red"), ("x",), ("x",), rec(a="x", c="red"))
        self.about(("name", "a", "z"), kind, ("name", "z", "a"))

    def test_sink(self):
        kind = record(a=TEXT, m=record(b=CHOICE), z=TEXT)
        elder = rec(a="x", m=rec(b="red"), z="y")
        self.told(("sink", "a", "m"), kind, elder, ("x",), ("x",), rec(m=rec(a="x", b="red"), z="y"))
        self.told(("sink", "z", "m"), kind, elder, ("y",), ("y",), rec(a="x", m=rec(b="red", z="y")))
        self.about(("sink", "z", "m"), kind, ("lift", "m", "z"))
        self.assertEqual(with_new(("sink", "a", "m"), kind, elder, ("q",)), rec(m=rec(a="q", b="red"), z="y"))

    def test_lift(self):
        kind = record(m=record(a=TEXT, b=CHOICE, z=TEXT))
        elder = rec(m=rec(a="x", b="red", z="y"))
        self.told(("lift", "m", "a"), kind, elder, ("x",), ("x",), rec(a="x", m=rec(b="red", z="y")))
        self.told(("lift", "m", "z"), kind, elder, ("y",), ("y",), rec(m=rec(a="x", b="red"), z="y"))
        self.about(("lift", "m", "z"), kind, ("sink", "z", "m"))
        self.assertEqual(with_new(("lift", "m", "a"), kind, elder, ("q",)), rec(a="q", m=rec(b="red", z="y")))

    def test_a_box_in_a_box(self):
        # A field of the box's box is no field of the box.
        kind = record(m=record(m=record(a=TEXT)))
        with self.assertRaises(BadPiece):
            record_behind(("lift", "m", "a"), kind)
        with self.assertRaises(BadPiece):
            record_behind(("lift", "m", "m"), kind)
        kind = record(a=TEXT, m=record(b=record(a=TEXT)))
        self.assertEqual(record_behind(("sink", "a", "m"), kind), record(m=record(a=TEXT, b=record(a=TEXT))))

    def test_turn(self):
        kind = record(a=NUMBER, c=CHOICE)
        self.told(("turn", "a", ("scale", 10)), kind, rec(a=-7, c="red"), (-7,), (-70,), rec(a=-70, c="red"))
        self.told(("turn", "a", ("bounds", 0, 2)), kind, rec(a=-7, c="red"), (-7,), (0,), rec(a=0, c="red"))
        self.about(("turn", "a", ("bounds", 0, 2)), kind, ("turn", "a", ("bounds", -7, 7)))
        self.about(("turn", "c", ("one", 3)), kind, ("turn", "c", ("out",)))

    def test_turn_is_the_turns(self):
        for value in all_values(NUMBER):
            for turn in (("bounds", -2, 2), ("scale", 3), ("shrink", 7), ("figures", 2), ("one", 1)):
                kind = record(a=NUMBER)
                self.assertEqual(record_behind(("turn", "a", turn), kind), record(a=kind_behind(turn, NUMBER)))
                self.assertEqual(made_values(("turn", "a", turn), kind, (value,)), (turned(turn, NUMBER, value),))

    def test_split(self):
        piece, kind = ("split", "t", "-", "x", "y"), record(t=("text", 5), z=CHOICE)
        for text, one, two in (("a-b", "a", "b"), ("", "", ""), ("abc", "abc", ""), ("abcde", "abcde", ""),
                               ("-", "", ""), ("a-", "a", ""), ("-b", "", "b"), ("a-b-c", "a", "b-c"), ("--", "", "-"),
                               ("a--b", "a", "-b"), ("-----", "", "----"), ("a b", "a b", "")):
            self.told(piece, kind, rec(t=text, z="red"), (text,), (one, two), rec(x=one, y=two, z="red"))
        self.about(piece, kind, ("join", "x", "y", "-", "t"))

    def test_split_into_names_in_any_order(self):
        kind = record(m=("text", 5))
        self.told(("split", "m", ".", "z", "a"), kind, rec(m="q.r"), ("q.r",), ("q", "r"), rec(a="r", z="q"))
        self.told(("split", "m", ".", "z", "m"), kind, rec(m="q.r"), ("q.r",), ("q", "r"), rec(m="r", z="q"))

    def test_join(self):
        piece, kind = ("join", "x", "y", "-", "t"), record(x=("text", 4), y=("text", 4), z=CHOICE)
        for one, two, text in (
            ("a", "b", "a-b"), ("", "", ""), ("a", "", "a"), ("", "b", "-b"), ("abcd", "", "abcd"),
            # Of either the first most signs.
            ("ab", "cd", "ab-c"), ("abcd", "x", "abcd"), ("", "abcd", "-abc"), ("a", "bcde"[:4], "a-bc"),
            # The first sep is the last sign.
            ("abc", "d", "abc"), ("a-", "", "a"), ("-", "", ""), ("abc-", "", "abc"), ("abc-", "d", "abc"),
            # The last sign is a sep, but not the first one.
            ("--", "", "--"), ("a-b-", "", "a-b-"), ("a-b-", "c", "a-b-"), ("a", "-", "a--"), ("a", "b-", "a-b-"),
            ("-", "-", "---"), ("a-b", "c", "a-b-"), ("-a", "", "-a"), ("", "-", "--"), ("a-b", "", "a-b"),
        ):
            self.told(piece, kind, rec(x=one, y=two, z="red"), (one, two), (text,), rec(t=text, z="red"))
        self.about(piece, kind, ("split", "t", "-", "x", "y"))

    def test_join_with_and_without_sep_at_every_length(self):
        for most in range(5):
            kind = record(x=("text", most), y=("text", most))
            for one in all_values(("text", most)):
                for two in all_values(("text", most)):
                    whole = one if two == "" else one + "-" + two
                    text = whole[:most]
                    if text.count("-") == 1 and text.endswith("-"):
                        text = text[:-1]
                    self.assertEqual(made_values(("join", "x", "y", "-", "t"), kind, (one, two)), (text,))

    def test_part(self):
        kind = record(n=("number", -10, 10), z=CHOICE)
        self.assertEqual(record_behind(("part", "n", 3, "p", "q"), kind),
                         record(p=("number", -4, 3), q=("number", 0, 2), z=CHOICE))
        for number, one, two in ((-10, -4, 2), (-9, -3, 0), (-7, -3, 2), (-1, -1, 2), (0, 0, 0), (1, 0, 1), (2, 0, 2),
                                 (3, 1, 0), (10, 3, 1)):
            self.told(("part", "n", 3, "p", "q"), kind, rec(n=number, z="red"), (number,), (one, two),
                      rec(p=one, q=two, z="red"))
        self.about(("part", "n", 3, "p", "q"), kind, ("whole", "p", "q", 3, "n", -10, 10))
        self.assertEqual(record_behind(("part", "n", 2, "p", "q"), record(n=("number", -TOP, TOP))),
                         record(p=("number", -TOP // 2, TOP // 2), q=("number", 0, 1)))
        self.assertEqual(made_values(("part", "n", 1000, "p", "q"), record(n=("number", -TOP, TOP)), (-TOP + 1,)),
                         (-TOP // 1000, 1))

    def test_whole(self):
        kind = record(p=("number", -4, 3), q=("number", 0, 2), z=CHOICE)
        piece = ("whole", "p", "q", 3, "n", -10, 10)
        self.assertEqual(record_behind(piece, kind), record(n=("number", -10, 10), z=CHOICE))
        for one, two, number in ((-4, 2, -10), (-4, 1, -10), (-4, 0, -10), (-3, 0, -9), (-1, 2, -1), (0, 0, 0),
                                 (0, 2, 2), (1, 0, 3), (3, 0, 9), (3, 1, 10), (3, 2, 10)):
            self.told(piece, kind, rec(p=one, q=two, z="red"), (one, two), (number,), rec(n=number, z="red"))
        self.about(piece, kind, ("part", "n", 3, "p", "q"))

    def test_part_and_whole_of_all_small_bounds(self):
        for low in range(-7, 8):
            for high in range(low, 8):
                for k in (2, 3, 5):
                    elder = record(n=("number", low, high))
                    piece = ("part", "n", k, "p", "q")
                    behind = record_behind(piece, elder)
                    self.assertEqual(behind, record(p=("number", low // k, high // k), q=("number", 0, k - 1)))
                    back = piece_about(piece, elder)
                    for number in range(low, high + 1):
                        one, two = made_values(piece, elder, (number,))
                        self.assertEqual(one * k + two, number)
                        self.assertIs(is_of(rec(p=one, q=two), behind), True)
                        self.assertEqual(made_values(back, behind, (one, two)), (number,))


class LosesTest(unittest.TestCase):
    def loses(self, piece, kind, old):
        """Whether there and back old values are others."""
        behind = record_behind(piece, kind)
        return made_values(piece_about(piece, kind), behind, made_values(piece, kind, old)) != old

    def test_old_values_that_lose(self):
        texts = record(f=TEXT, g=TEXT)
        for piece, kind, losing, others in (
            (("put", "x", TEXT, "a"), texts, (), ((),)),
            (("drop", "f", "a"), texts, (("",), ("b",)), (("a",),)),
            (("name", "f", "x"), texts, (), (("",), ("abc",))),
            (("sink", "f", "r"), record(f=TEXT, r=record()), (), (("",), ("abc",))),
            (("lift", "r", "f"), record(r=record(f=TEXT)), (), (("",), ("abc",))),
            (("turn", "f", ("cut", 1)), texts, (("ab",),), (("a",), ("",))),
            (("split", "f", "-", "x", "y"), texts, (("a-",), ("-",)), (("a-b",), ("-b",), ("ab",), ("",), ("--",))),
            (("join", "f", "g", "-", "x"), texts, (("ab", "c"), ("a-", ""), ("a", "bc"), ("a-b", ""), ("abc", "a")),
             (("a", "b"), ("", "b"), ("abc", ""), ("", ""), ("", "ab"))),
            (("part", "n", 3, "p", "q"), record(n=NUMBER), (), ((-7,), (0,), (7,))),
            (("whole", "p", "q", 3, "n", -7, 7), PARTS, ((-3, 0), (-3, 1), (2, 2)), ((-3, 2), (2, 1), (0, 0))),
        ):
            for old in losing:
                with self.subTest(piece=piece, old=old):
                    self.assertTrue(self.loses(piece, kind, old))
            for old in others:
                with self.subTest(piece=piece, old=old):
                    self.assertFalse(self.loses(piece, kind, old))


def plain_behind(piece, kind):
    """The document's words for pieces once more: the kind behind, or the refusal."""
    fields = dict(kind[1])
    match piece:
        case ("put", str(name), tuple(inner), value):
            return plain_done(fields, [], [], [(name, inner)]) if plain_value(value, inner) else BadPiece
        case ("drop", str(name), value):
            return plain_done(fields, [name], [lambda k: is_of(value, k)], [])
        case ("name", str(old), str(new)):
            return plain_done(fields, [old], [any_kind], [(new, fields.get(old))])
        case ("sink", str(name), str(box)):
            return plain_sink(fields, name, box)
        case ("lift", str(box), str(name)):
            return plain_lift(fields, box, name)
        case ("turn", str(name), tuple(turn)):
            if name not in fields:
                return BadPiece
            try:
                return plain_done(fields, [name], [any_kind], [(name, kind_behind(turn, fields[name]))])
            except BadTurn:
                return BadTurn
        case ("split", str(name), str(sep), str(one), str(two)) if plain_sign(sep):
            inner = fields.get(name)
            return plain_done(fields, [name], [lambda k: k[0] == "text"], [(one, inner), (two, inner)])
        case ("join", str(one), str(two), str(sep), str(name)) if plain_sign(sep):
            inner = fields.get(one)
            return plain_done(fields, [one, two], [lambda k: k[0] == "text", lambda k: k == inner], [(name, inner)])
        case ("part", str(name), int(k), str(one), str(two)) if 2 <= k <= 1000:
            match fields.get(name):
                case ("number", low, high):
                    made = [(one, ("number", low // k, high // k)), (two, ("number", 0, k - 1))]
                    return plain_done(fields, [name], [any_kind], made)
        case ("whole", str(one), str(two), int(k), str(name), int(low), int(high)) if 2 <= k <= 1000:
            asked = [lambda kind: kind == ("number", low // k, high // k), lambda kind: kind == ("number", 0, k - 1)]
            return plain_done(fields, [one, two], asked, [(name, ("number", low, high))])
    return BadPiece


def any_kind(kind):
    return True


def plain_sign(sep):
    return len(sep) == 1 and " " <= sep <= "~" and sep not in '"%'


def plain_value(value, kind):
    try:
        return is_of(value, made_kind(kind))
    except BadKind:
        return False


def plain_done(fields, taken, asked, made):
    if len(set(taken)) != len(taken) or not set(taken) <= set(fields):
        return BadPiece
    if not all(ask(fields[name]) for name, ask in zip(taken, asked)):
        return BadPiece
    rest = {name: kind for name, kind in fields.items() if name not in taken}
    for name, kind in made:
        if name in rest:
            return BadPiece
        rest[name] = kind
    return plain_kind(rest)


def plain_kind(fields):
    try:
        return made_kind(record(**fields))
    except BadKind:
        return BadPiece


def plain_sink(fields, name, box):
    if name == box or name not in fields or fields.get(box, ("",))[0] != "record" or name in dict(fields[box][1]):
        return BadPiece
    inner = record(**{**dict(fields[box][1]), name: fields[name]})
    return plain_kind({**{own: kind for own, kind in fields.items() if own != name}, box: inner})


def plain_lift(fields, box, name):
    if name in fields or fields.get(box, ("",))[0] != "record" or name not in dict(fields[box][1]):
        return BadPiece
    inner = dict(fields[box][1])
    lifted = inner.pop(name)
    return plain_kind({**fields, box: record(**inner), name: lifted})


# One thing of each form that may stand in another one's place.
STRANGERS = (0, -1, 1, 2, 3, 5, 1000, 1001, TOP + 1, "", "a", "c", "f", "g", "n", "p", "q", "r", "x", "y", "-", "--",
             "\n", '"', "%", "each", "A", "abcdefghi", "put", "red", (), (0,), ("a",), ("cut", 1), ("scale", 2),
             ("one", 1), NUMBER, TEXT, CHOICE, BOX, items(), rec(), rec(a="red", z="red"))


class RefusedTest(unittest.TestCase):
    def refused(self, piece, kind, refusal=BadPiece):
        with self.subTest(piece=piece, kind=kind):
            for again in range(2):
                with self.assertRaises(refusal):
                    record_behind(piece, kind)
                with self.assertRaises(refusal):
                    piece_about(piece, kind)

    def test_no_such_form(self):
        for piece in ((), ("",), ("puts", "x", TEXT, ""), ("Put", "x", TEXT, ""), ("add", "x"), (0,), (0, "f"), ((),),
                      (("drop", "f", ""),), ("each", "f"), ("cut", 1), ("scale", 2), ("bounds", 0, 1), ("items", ()),
                      ("record", ()), ("text", 3), ("number", 0, 3), ("drop",), ("out",), (("drop",), "f", "")):
            self.refused(piece, ELDER)
            self.refused(piece, record())

    def test_another_count_of_parts(self):
        for piece, kind, behind in GOOD:
            for count in range(len(piece)):
                self.refused(piece[:count], kind)
            for more in (0, "x", (), TEXT):
                self.refused(piece + (more,), kind)
                self.refused(piece[:1] + (more,) + piece[1:], kind)

    def test_strangers_in_every_place(self):
        let_by, turns = 0, 0
        for piece, kind, behind in GOOD:
            self.assertEqual(plain_behind(piece, kind), behind)
            for place in places(piece):
                for other in STRANGERS:
                    changed = put_at(piece, place, other)
                    if not isinstance(changed, tuple):
                        continue
                    expected = plain_behind(changed, kind)
                    if expected in (BadPiece, BadTurn):
                        turns += expected == BadTurn
                        self.refused(changed, kind, expected)
                    else:
                        let_by += 1
                        self.assertEqual(record_behind(changed, kind), expected)
        self.assertGreater(let_by, 200)
        self.assertGreater(turns, 30)

    def test_good_pieces_of_other_kinds(self):
        kinds = [kind for piece, kind, behind in GOOD] + [behind for piece, kind, behind in GOOD]
        for piece, own, behind in GOOD:
            for kind in kinds:
                expected = plain_behind(piece, kind)
                if expected in (BadPiece, BadTurn):
                    self.refused(piece, kind, expected)
                else:
                    self.assertEqual(record_behind(piece, kind), expected)

    def test_fields_that_are_not_there(self):
        for name in ("x", "a", "each", "", "ff", "F", 0, (), ("f",)):
            for piece in (("drop", name, ""), ("name", name, "y"), ("sink", name, "r"), ("sink", "f", name),
                          ("lift", name, "a"), ("lift", "r", name if name != "a" else "c"), ("turn", name, ("cut", 1)),
                          ("split", name, "-", "x", "y"), ("join", name, "g", "-", "y"), ("join", "f", name, "-", "y"),
                          ("part", name, 2, "x", "y"), ("whole", name, "q", 3, "y", -7, 7)):
                self.refused(piece, ELDER)
            self.refused(("whole", name, "q", 3, "y", -7, 7), PARTS)
            self.refused(("whole", "p", name, 3, "y", -7, 7), PARTS)

    def test_fields_of_other_kinds(self):
        for name in ("c", "n", "r"):
            self.refused(("split", name, "-", "x", "y"), ELDER)
            self.refused(("join", name, "g", "-", "y"), ELDER)
            self.refused(("join", "f", name, "-", "y"), ELDER)
        for name in ("c", "f", "r"):
            self.refused(("part", name, 2, "x", "y"), ELDER)
        for name in ("c", "g", "n"):
            self.refused(("sink", "f", name), ELDER)
            self.refused(("lift", name, "a"), ELDER)
        listed = record(f=TEXT, l=("list", BOX, 1), w=("rows", "f", record(f=TEXT, g=TEXT), 1))
        for name in ("l", "w"):
            for inner in ("a", "each", "g", "f"):
                self.refused(("lift", name, inner), listed)
            self.refused(("sink", "f", name), listed)
        self.refused(("join", "f", "g", "-", "x"), record(f=("text", 3), g=("text", 4)))
        self.refused(("join", "f", "g", "-", "x"), record(f=("text", 4), g=("text", 3)))
        self.refused(("join", "f", "g", "-", "x"), record(f=NUMBER, g=NUMBER))

    def test_names_that_are_there_already(self):
        for name in ("c", "f", "g", "n", "r"):
            self.refused(("put", name, TEXT, ""), ELDER)
            if name != "f":
                self.refused(("name", "f", name), ELDER)
                self.refused(("split", "f", "-", name, "y"), ELDER)
                self.refused(("split", "f", "-", "x", name), ELDER)
            if name != "n":
                self.refused(("part", "n", 2, name, "y"), ELDER)
                self.refused(("part", "n", 2, "x", name), ELDER)
            if name not in "fg":
                self.refused(("join", "f", "g", "-", name), ELDER)
        self.refused(("whole", "p", "q", 3, "c", -7, 7), PARTS)
        self.refused(("sink", "a", "r"), record(a=TEXT, r=BOX))
        self.refused(("lift", "r", "a"), record(a=TEXT, r=BOX))
        self.refused(("lift", "r", "r"), record(r=record(r=TEXT)))

    def test_names_that_are_none(self):
        for name in ("each", "", "A", "x1", "abcdefghi", "a b", "x\n", 0, (), ("x",)):
            for piece in (("put", name, TEXT, ""), ("name", "f", name), ("split", "f", "-", name, "y"),
                          ("split", "f", "-", "x", name), ("join", "f", "g", "-", name), ("part", "n", 2, name, "y"),
                          ("part", "n", 2, "x", name)):
                self.refused(piece, ELDER)
            self.refused(("whole", "p", "q", 3, name, -7, 7), PARTS)

    def test_one_field_twice(self):
        self.refused(("join", "f", "f", "-", "x"), ELDER)
        self.refused(("join", "f", "f", "-", "f"), ELDER)
        self.refused(("whole", "p", "p", 3, "x", 0, 8), record(p=("number", 0, 2)))
        self.refused(("split", "f", "-", "x", "x"), ELDER)
        self.refused(("split", "f", "-", "f", "f"), ELDER)
        self.refused(("part", "n", 3, "x", "x"), ELDER)
        self.refused(("part", "n", 3, "n", "n"), ELDER)
        self.refused(("sink", "r", "r"), ELDER)
        self.refused(("sink", "r", "r"), record(r=record()))

    def test_values_that_are_not_of_their_kind(self):
        for kind, value in ((NUMBER, 8), (NUMBER, -8), (NUMBER, "1"), (NUMBER, ()), (TEXT, "abcd"), (TEXT, 0),
                            (TEXT, '"'), (TEXT, "\n"), (CHOICE, "green"), (CHOICE, ""), (BOX, rec(a="red")),
                            (BOX, rec()),
                            (("list", TEXT, 1), items("a", "b")), (("list", TEXT, 1), rows()), (("list", TEXT, 1), ())):
            self.refused(("put", "x", kind, value), ELDER)
            self.refused(("drop", "x", value), record(c=CHOICE, x=kind))

    def test_kinds_that_are_none(self):
        for kind in ((), ("number", 1, 0), ("number", 0), ("text", 61), ("text", -1), ("choice", ()), ("list", TEXT, 9),
                     ("rows", "x", record(), 1), deep(6), ("bounds", 0, 1), ("record", (("each", TEXT),)),
                     ("list", 0, 1), ("record", 0), 0, "", "text"):
            for value in ("", 0, (), items(), rows(), rec()):
                self.refused(("put", "x", kind, value), ELDER)

    def test_separators(self):
        for sep in ("", "--", "ab", "\n", '"', "%", "- ", 0, (), ("-",)):
            self.refused(("split", "f", sep, "x", "y"), ELDER)
            self.refused(("join", "f", "g", sep, "x"), ELDER)
        for code in range(32, 127):
            sep = chr(code)
            if sep not in '"%':
                record_behind(("split", "f", sep, "x", "y"), ELDER)
                record_behind(("join", "f", "g", sep, "x"), ELDER)
                text = "1" + sep + "2"
                at = text.index(sep)
                self.assertEqual(made_values(("split", "f", sep, "x", "y"), ELDER, (text,)), (text[:at], text[at + 1:]))

    def test_factors(self):
        for k in (1, 0, -1, -2, 1001, 1002, 10 ** 59, "2", (), (2,)):
            self.refused(("part", "n", k, "x", "y"), ELDER)
            self.refused(("whole", "p", "q", k, "x", -7, 7), PARTS)
        # Kinds as part would make them by 1 and 1001.
        self.refused(("whole", "p", "q", 1, "x", -7, 7), record(p=NUMBER, q=("number", 0, 0)))
        self.refused(("whole", "p", "q", 1001, "x", 0, 7), record(p=("number", 0, 0), q=("number", 0, 1000)))
        for k in (2, 1000):
            behind = record_behind(("part", "n", k, "p", "q"), record(n=NUMBER))
            self.assertEqual(record_behind(("whole", "p", "q", k, "n", -7, 7), behind), record(n=NUMBER))

    def test_a_whole_of_other_kinds(self):
        piece = ("whole", "p", "q", 3, "x", -7, 7)
        for one, two in ((("number", -2, 2), ("number", 0, 2)), (("number", -3, 3), ("number", 0, 2)),
                         (("number", -3, 1), ("number", 0, 2)), (("number", -3, 2), ("number", 0, 3)),
                         (("number", -3, 2), ("number", 0, 1)), (("number", -3, 2), ("number", 1, 2)),
                         (("number", 0, 2), ("number", -3, 2)), (TEXT, ("number", 0, 2)), (("number", -3, 2), TEXT)):
            self.refused(piece, record(p=one, q=two))
        for low, high in ((-10, 7), (-6, 7), (-7, 9), (-7, 5), (7, -7), (-7, "7"), ((), 7)):
            self.refused(("whole", "p", "q", 3, "x", low, high), PARTS)
        for low in (-9, -8, -7):
            for high in (6, 7, 8):
                self.assertEqual(record_behind(("whole", "p", "q", 3, "x", low, high), PARTS),
                                 record(c=CHOICE, x=("number", low, high)))

    def test_a_whole_of_bounds_that_are_none(self):
        self.refused(("whole", "p", "q", 2, "x", 1, 0), record(p=("number", 0, 0), q=("number", 0, 1)))
        half = TOP // 2
        kind = record(p=("number", -half, half), q=("number", 0, 1))
        self.assertEqual(record_behind(("whole", "p", "q", 2, "x", -TOP, TOP), kind), record(x=("number", -TOP, TOP)))
        self.refused(("whole", "p", "q", 2, "x", -TOP, TOP + 1), kind)

    def test_too_many_fields_behind(self):
        full = letters(8, TEXT)
        self.refused(("put", "x", TEXT, ""), full)
        self.refused(("split", "a", "-", "x", "y"), full)
        self.refused(("lift", "h", "x"), record(**dict(letters(7)[1]), h=record(x=TEXT)))
        self.refused(("part", "a", 2, "x", "y"), letters(8, NUMBER))
        self.refused(("sink", "z", "r"), record(r=letters(8), z=TEXT))
        self.assertEqual(record_behind(("put", "h", TEXT, ""), letters(7, TEXT)), full)
        self.assertEqual(record_behind(("sink", "h", "r"), record(r=letters(7), h=("number", 0, 9))),
                         record(r=letters(8)))

    def test_too_deep_behind(self):
        self.refused(("put", "x", deep(5), items()), record())
        self.assertEqual(record_behind(("put", "x", deep(4), items()), record()), record(x=deep(4)))
        self.refused(("sink", "x", "r"), record(r=record(), x=deep(4)))
        self.assertEqual(record_behind(("sink", "x", "r"), record(r=record(), x=deep(3))), record(r=record(x=deep(3))))

    def test_too_many_kinds_behind(self):
        kind = record(**{name: letters(8) for name in "abcd"}, e=TEXT, f=TEXT)
        self.assertEqual(record_behind(("put", "g", TEXT, ""), kind), record(**dict(kind[1]), g=TEXT))
        self.refused(("put", "g", ("list", TEXT, 1), items()), kind)
        self.refused(("put", "g", record(x=TEXT), rec(x="")), kind)
        more = record(**dict(kind[1]), g=TEXT)
        self.refused(("put", "h", TEXT, ""), more)
        self.refused(("split", "g", "-", "x", "y"), more)
        # By itself the turn is good; the record kind behind is none.
        self.refused(("turn", "g", ("one", 1)), more)

    def test_turns_that_are_none(self):
        for turn in ((), ("cut",), ("cut", 61), ("cut", "1"), ("scale", 2), ("out",), ("items", ("cut", 1)),
                     ("one", 0), ("one", 9), ("number", 0, 9999), ("number", 9, 0), ("put", "x", TEXT, ""), (0,)):
            self.refused(("turn", "f", turn), ELDER, BadTurn)
        self.refused(("turn", "n", ("shrink", 2)), ELDER, BadTurn)
        self.refused(("turn", "c", ("words", ("a",), (("a", "red"),))), ELDER, BadTurn)

    def test_turns_in_the_order_told(self):
        self.refused(("turn", "x", ("cut",)), ELDER)
        self.refused(("turn", "x", ()), ELDER)
        self.refused(("turn", "f", 0), ELDER)
        self.refused(("turn", "f", "out"), ELDER)
        self.refused(("turn", "f", ("cut",), 0), ELDER)
        self.refused(("turn", 0, ("cut",)), ELDER)
        # By itself the list is 5 deep, in the record too deep.
        self.refused(("turn", "x", ("one", 1)), record(x=deep(4)))
        self.assertEqual(record_behind(("turn", "x", ("one", 1)), record(x=deep(3))), record(x=deep(4)))

    def test_deep_tuples(self):
        long = ()
        for level in range(20000):
            long = ("list", long, 1)
        for piece in (("put", "x", long, 0), ("put", "x", ("list", TEXT, 1), long), ("drop", "f", long),
                      ("name", "f", long), ("split", "f", long, "x", "y"), (long, "f"), (long,)):
            with self.assertRaises(BadPiece):
                record_behind(piece, ELDER)
        with self.assertRaises(BadTurn):
            record_behind(("turn", "f", long), ELDER)


if __name__ == "__main__":
    unittest.main()
