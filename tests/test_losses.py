"""Changes that lose ever, and their losers: [7.3]."""

import itertools
import unittest

from oldhands.changes import shape_behind
from oldhands.errors import BadKind, BadPath, BadPiece, BadTurn
from oldhands.kinds import kind_depth, made_kind
from oldhands.leading import lost
from oldhands.losses import loser
from oldhands.pieces import made_values, old_values, piece_about, record_behind
from oldhands.shapes import kind_at
from oldhands.turns import kind_behind, twin_of
from oldhands.values import is_of
from samples import all_values, deep, items, letters, rec, record, rows
from ways import PIECED, WAYS, plain_places, plain_rest, plain_with, with_key

TOP = 10 ** 30
CHOICE = ("choice", ("red", "blue"))
BIT = ("number", 0, 1)
TEXT = ("text", 3)


def plain_least(kind):
    """The least value of a kind, by the document's words."""
    match kind:
        case ("number", low, high):
            return 0 if low <= 0 <= high else low if low > 0 else high
        case ("text", _):
            return ""
        case ("choice", words):
            return words[0]
        case ("record", fields):
            return ("record", tuple((name, plain_least(inner)) for name, inner in fields))
        case (word, *_):
            return (word, ())


def plain_around(kind, path):
    """The least value with one item in each list and rows on the path."""
    match kind, path:
        case _, ():
            return plain_least(kind)
        case ("list", inner, _), ("each", *rest):
            return ("list", (plain_around(inner, tuple(rest)),))
        case ("rows", _, inner, _), ("each", *rest):
            return ("rows", (plain_around(inner, tuple(rest)),))
        case ("record", fields), (name, *rest):
            return ("record", tuple((own, plain_around(inner, tuple(rest)) if own == name else plain_least(inner))
                                    for own, inner in fields))


class LosesTest(unittest.TestCase):
    def loses(self, change, shape):
        """The change loses ever, and its loser is one."""
        with self.subTest(change=change, shape=shape):
            path, piece = change
            told = loser(change, shape)
            self.assertIsNotNone(told)
            self.assertIs(is_of(told, shape), True)
            self.assertEqual(len(plain_places(shape, told, path)), 1)
            self.assertEqual(len(lost(change, shape, told)), 1)
            self.assertEqual(plain_with(told, path, lambda spot: plain_rest(piece, spot, 0)),
                             plain_with(plain_around(shape, path), path, lambda spot: plain_rest(piece, spot, 0)))
            self.assertEqual(loser(change, shape), told)

    def never(self, change, shape):
        with self.subTest(change=change, shape=shape):
            for again in range(2):
                self.assertIsNone(loser(change, shape))

    def tells(self, change, shape, expected):
        self.loses(change, shape) if expected else self.never(change, shape)

    def turned(self, turn, kind, expected):
        kind_behind(turn, kind)
        self.tells(((), ("turn", "v", turn)), record(a=CHOICE, v=kind), expected)
        if kind_depth(kind) <= 2:
            self.tells((("l", "each"), ("turn", "v", turn)), record(l=("list", record(v=kind), 2)), expected)


class PiecesTest(LosesTest):
    def test_pieces_that_never_lose(self):
        kind = record(a=BIT, c=CHOICE, m=record(b=TEXT), n=("number", -7, 7), t=TEXT)
        for piece in (("put", "x", CHOICE, "blue"), ("name", "t", "u"), ("name", "t", "t"), ("sink", "t", "m"),
                      ("lift", "m", "b"), ("part", "n", 3, "p", "q"), ("part", "n", 1000, "n", "q")):
            self.never(((), piece), kind)

    def test_drop(self):
        for kind, value, expected in (
            (("number", 3, 3), 3, False), (("number", 3, 4), 3, True), (("number", 3, 4), 4, True),
            (("number", -4, -3), -3, True), (("number", -4, -3), -4, True), (("number", -TOP, TOP), 0, True),
            (("number", -1, 1), 0, True), (("number", -1, 0), 0, True), (("number", 0, 1), 0, True),
            (("number", -TOP, -TOP), -TOP, False), (("number", -9, 9), -9, True), (("number", -9, 9), 9, True),
            (("text", 0), "", False), (("text", 1), "", True), (("text", 1), "a", True), (("text", 60), "a" * 60, True),
            (("text", 60), "", True),
            (("choice", ("one",)), "one", False), (CHOICE, "red", True), (CHOICE, "blue", True),
            (("list", BIT, 0), items(), False), (("list", BIT, 1), items(), True), (("list", BIT, 1), items(0), True),
            (("list", ("text", 0), 1), items(""), True), (("list", ("text", 0), 1), items(), True),
            (("list", ("text", 0), 0), items(), False), (("list", record(), 8), items(*[rec()] * 8), True),
            (("rows", "k", record(k=BIT), 0), rows(), False), (("rows", "k", record(k=BIT), 1), rows(), True),
            (("rows", "k", record(k=("text", 0)), 3), rows(rec(k="")), True),
            (("rows", "k", record(k=("text", 0)), 3), rows(), True),
            (("rows", "k", record(k=("number", 5, 5), v=BIT), 1), rows(rec(k=5, v=0)), True),
            (record(), rec(), False), (record(a=("text", 0)), rec(a=""), False),
            (record(a=("text", 0), b=record(c=("number", 1, 1))), rec(a="", b=rec(c=1)), False),
            (record(a=("text", 0), b=record(c=("number", 1, 2))), rec(a="", b=rec(c=1)), True),
            (record(a=("text", 0), b=record(c=("number", 1, 2))), rec(a="", b=rec(c=2)), True),
            (record(a=("text", 1), b=("number", 1, 1)), rec(a="", b=1), True),
            (record(a=("text", 0), b=("list", BIT, 0)), rec(a="", b=items()), False),
        ):
            self.assertIs(is_of(value, kind), True)
            self.tells(((), ("drop", "v", value)), record(a=CHOICE, v=kind), expected)

    def test_split_and_join(self):
        for most in (0, 1, 2, 3, 60):
            for sep in "-a ~":
                self.tells(((), ("split", "f", sep, "x", "y")), record(c=CHOICE, f=("text", most)), most > 0)
                kind = record(c=CHOICE, f=("text", most), g=("text", most))
                self.tells(((), ("join", "f", "g", sep, "x")), kind, most > 0)
                self.tells(((), ("join", "g", "f", sep, "f")), kind, most > 0)

    def test_whole(self):
        # The parts make numbers outside just where low or high stands amid a k.
        for k in (2, 3, 5):
            for low in range(-7, 8):
                for high in range(low, 8):
                    kind = record(c=CHOICE, p=("number", low // k, high // k), q=("number", 0, k - 1))
                    self.tells(((), ("whole", "p", "q", k, "n", low, high)), kind,
                               low % k != 0 or high % k != k - 1)
        kind = record(p=("number", -TOP // 1000, TOP // 1000), q=("number", 0, 999))
        self.loses(((), ("whole", "p", "q", 1000, "n", -TOP, TOP)), kind)


class TurnsTest(LosesTest):
    def test_bounds(self):
        for low in range(-4, 5):
            for high in range(low, 5):
                for first, last in ((-2, 2), (0, 0), (1, 3), (-3, -1), (2, 2)):
                    kind = ("number", first, last)
                    expected = any(twin_of(("bounds", low, high), kind, value) != value
                                   for value in range(first, last + 1))
                    self.turned(("bounds", low, high), kind, expected)
        self.turned(("bounds", -TOP, TOP), ("number", -TOP, TOP), False)
        self.turned(("bounds", -TOP, TOP - 1), ("number", -TOP, TOP), True)
        self.turned(("bounds", 1 - TOP, TOP), ("number", -TOP, TOP), True)

    def test_scale_and_shrink(self):
        for k in (2, 3, 1000):
            self.turned(("scale", k), ("number", -5, 7), False)
            self.turned(("shrink", k), ("number", -k, k), True)
            self.turned(("shrink", k), ("number", 0, k), True)
            self.turned(("shrink", k), ("number", -k, 0), True)
            self.turned(("shrink", k), ("number", 0, 0), False)
            self.turned(("shrink", k), ("number", 3 * k, 3 * k), False)
        self.turned(("shrink", 2), ("number", -TOP, TOP), True)

    def test_figures_and_number(self):
        self.turned(("figures", 2), ("number", -5, 7), False)
        self.turned(("figures", 60), ("number", -TOP, TOP), False)
        for low, high in ((0, 0), (0, 9), (5, 9), (-9, 99)):
            for most in (2, 3, 60):
                self.turned(("number", low, high), ("text", most), True)
        self.turned(("number", 0, 9), ("text", 1), True)

    def test_words(self):
        three = ("choice", ("top", "mid", "low"))
        for many in (1, 2, 3):
            behind = ("x", "y", "z")[:many]
            for forth in itertools.product(behind, repeat=3):
                for some in itertools.product(three[1], repeat=many):
                    turn = ("words", forth, tuple(zip(behind, some)))
                    try:
                        kind_behind(turn, three)
                    except BadTurn:
                        continue
                    self.turned(turn, three, any(twin_of(turn, three, word) != word for word in three[1]))
        self.turned(("words", ("a", "b", "c"), (("c", "low"), ("b", "mid"), ("a", "top"))), three, False)
        self.turned(("words", ("a",), (("a", "one"), ("b", "one"))), ("choice", ("one",)), False)

    def test_cut(self):
        for most in (0, 1, 2, 59, 60):
            for shorter in (0, 1, 2, 3, 58, 59, 60):
                self.turned(("cut", shorter), ("text", most), shorter < most)

    def test_first_of_lists(self):
        for inner in (BIT, ("text", 0), record(), record(a=CHOICE)):
            for most in range(9):
                for fewer in range(9):
                    self.turned(("first", fewer), ("list", inner, most), fewer < most)

    def test_first_of_rows(self):
        # Rows have no more items than there are keys.
        for key, many in ((("number", 4, 4), 1), (("number", -1, 0), 2), (("number", -1, 1), 3), (("number", 0, 7), 8),
                          (("number", 0, 8), 9), (("number", -TOP, TOP), 9), (("number", TOP - 1, TOP), 2),
                          (("number", -TOP, 1 - TOP), 2), (("text", 0), 1), (("text", 1), 9), (("text", 60), 9)):
            for most in range(9):
                for fewer in range(9):
                    self.turned(("first", fewer), ("rows", "k", record(k=key, v=CHOICE), most), fewer < min(most, many))

    def test_one_and_out(self):
        for kind in (BIT, TEXT, CHOICE, record(), record(a=BIT), ("list", BIT, 0), ("rows", "k", record(k=BIT), 2)):
            for most in (1, 2, 8):
                self.tells(((), ("turn", "v", ("one", most))), record(v=kind), False)
                self.tells(((), ("turn", "v", ("out",))), record(v=("list", kind, most)), True)

    def test_items(self):
        for turn, kind, expected in (
            (("cut", 1), ("text", 2), True), (("cut", 2), ("text", 2), False), (("scale", 3), BIT, False),
            (("number", 0, 9), ("text", 1), True), (("out",), ("list", BIT, 1), True), (("bounds", 0, 0), BIT, True),
            (("bounds", 1, 1), BIT, True), (("first", 0), ("list", BIT, 1), True),
            (("first", 1), ("list", BIT, 1), False),
            (("words", ("x", "x"), (("x", "red"),)), CHOICE, True),
            (("words", ("x", "x"), (("x", "blue"),)), CHOICE, True),
            (("items", ("cut", 1)), ("list", ("text", 2), 1), True),
            (("items", ("cut", 1)), ("list", ("text", 2), 0), False),
            (("items", ("cut", 1)), ("list", ("text", 1), 2), False),
        ):
            for most in (0, 1, 2, 8):
                self.tells(((), ("turn", "v", ("items", turn))), record(v=("list", kind, most)), expected and most > 0)


class AllTest(LosesTest):
    def test_all_pieces_and_turns_by_all_old_values(self):
        # What these small kinds hold is looked at one by one.
        many = {True: 0, False: 0}
        for piece, line, signs in PIECED:
            about, behind = piece_about(piece, line), record_behind(piece, line)
            for one, kind, other in ((piece, line, about), (about, behind, piece)):
                back = line if one == about else behind
                olds = {old_values(one, some) for some in all_values(kind, signs)}
                expected = any(made_values(other, back, made_values(one, kind, old)) != old for old in olds)
                for name, way in WAYS.items():
                    change, shape = (way.path, one), way.shape(kind)
                    try:
                        shape_behind(change, made_kind(shape))
                    except BadKind:
                        continue
                    self.tells(change, shape, expected)
                    many[expected] += 1
        self.assertGreater(min(many.values()), 100)


class PathsTest(LosesTest):
    def test_lists_and_rows_on_the_path(self):
        line = record(c=CHOICE, n=("number", 3, 5))
        piece = ("drop", "n", 3)
        keyed = with_key(line, ("number", 7, 9))
        for path, shape, expected in (
            (("l", "each"), lambda most: record(l=("list", line, most), z=TEXT),
             lambda spot: rec(l=items(spot), z="")),
            (("r", "each"), lambda most: record(r=("rows", "k", keyed, most), z=("list", BIT, 3)),
             lambda spot: rec(r=rows(with_key(spot, 7)), z=items())),
            (("l", "each", "each"), lambda most: record(l=("list", ("list", line, most), 2)),
             lambda spot: rec(l=items(items(spot)))),
            (("l", "each", "each"), lambda most: record(l=("list", ("list", line, 2), most)),
             lambda spot: rec(l=items(items(spot)))),
            (("l", "each", "each"), lambda most: record(l=("list", ("rows", "k", keyed, most), 2)),
             lambda spot: rec(l=items(rows(with_key(spot, 7))))),
            (("r", "each", "e"), lambda most: record(r=("rows", "k", record(e=line, k=("text", 2)), most)),
             lambda spot: rec(r=rows(rec(e=spot, k="")))),
        ):
            self.never((path, piece), shape(0))
            for most in (1, 2, 8):
                self.loses((path, piece), shape(most))
                told = loser((path, piece), shape(most))
                spot = next(iter(plain_places(shape(most), told, path).values()))
                number = dict(spot[1])["n"]
                self.assertIn(number, (4, 5))
                self.assertEqual(told, expected(rec(c="red", n=number)))

    def test_lists_beside_the_path_have_no_item(self):
        line = record(n=BIT)
        shape = record(e=record(l=("list", BIT, 3), n=BIT), l=("list", line, 3), r=("rows", "n", line, 1))
        told = loser((("e",), ("turn", "n", ("bounds", 0, 0))), shape)
        self.assertEqual(told, rec(e=rec(l=items(), n=1), l=items(), r=rows()))
        self.assertEqual(loser((("l", "each"), ("turn", "n", ("bounds", 0, 0))), shape),
                         rec(e=rec(l=items(), n=0), l=items(rec(n=1)), r=rows()))

    def test_a_list_beside_that_may_have_no_item(self):
        shape = record(l=("list", record(n=BIT), 0), n=BIT)
        self.loses(((), ("drop", "n", 0)), shape)
        self.never((("l", "each"), ("drop", "n", 0)), shape)


class RefusedTest(LosesTest):
    def test_refused_as_the_shape_behind(self):
        line = record(k=TEXT, n=BIT)
        shape = record(e=line, l=("list", line, 0), r=("rows", "k", line, 2), t=TEXT)
        for change, refusal in (
            ((("x",), ("drop", "n", 0)), BadPath), ((("l",), ("drop", "n", 0)), BadPath), ((("t",), ()), BadPath),
            ((("e", "each"), ("drop", "n", 0)), BadPath), (((), ("drop", "x", 0)), BadPiece), (((), ()), BadPiece),
            ((("l", "each"), ("drop", "x", 0)), BadPiece), ((("r", "each"), ("drop", "k", "")), BadPiece),
            ((("e",), ("drop", "n", 2)), BadPiece), ((("e",), ("put", "n", BIT, 0)), BadPiece),
            ((("e",), ("turn", "n", ("out",))), BadTurn), ((("l", "each"), ("turn", "n", ())), BadTurn),
            ((("l", "each"), ("put", "x", deep(3), items())), BadKind),
            ((("r", "each"), ("turn", "n", ("one", 9))), BadTurn),
        ):
            for again in range(2):
                with self.subTest(change=change), self.assertRaises(refusal) as caught:
                    loser(change, shape)
                self.assertIs(type(caught.exception), refusal)
        full = made_kind(record(a=letters(7), b=letters(8), c=letters(8), d=letters(8), e=TEXT, f=TEXT, g=TEXT, h=TEXT))
        with self.assertRaises(BadKind):
            loser((("a",), ("put", "x", TEXT, "")), full)
        self.assertEqual(kind_at(full, ("e",)), TEXT)


if __name__ == "__main__":
    unittest.main()
