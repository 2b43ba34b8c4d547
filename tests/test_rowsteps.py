"""Steps of rows of changes: [12.1] to [12.4], with [0.2], [0.3], [0.4]."""

import itertools
import random
import unittest

from oldhands.changes import change_about
from oldhands.errors import BadKind, BadPath, BadPiece, BadTurn, BadVersion, Full
from oldhands.kinds import kind_many, made_kind
from oldhands.rowsteps import meet, step_done, touches
from oldhands.values import least_value
from chains import plain_shapes
from rowing import (
    BOXED, WORDS, drawn_row, is_row, led_along, led_back_along, plain_done, plain_meet, plain_touches, unlike,
)
from samples import all_values, deep, items, letters, rec, record
from ways import PIECED, WAYS, all_changes

NUMBER = ("number", 0, 9)
TEXT = ("text", 3)
CHOICE = ("choice", ("red", "blue"))
TOP = 10 ** 30


class StepTest(unittest.TestCase):
    def tells(self, shape, row, step, outcome):
        """The step leads to the outcome, a list, whether the row is handed in as a list or as a tuple."""
        made_kind(shape)
        with self.subTest(row=row, step=step):
            for handed in (list(row), tuple(row), list(row)):
                told = step_done(shape, handed, step)
                self.assertIs(type(told), list)
                self.assertEqual(told, list(outcome))
                self.assertEqual(list(handed), list(row))
            self.assertIsNone(unlike(shape, list(row), told, random.Random(7), 12))

    def refused(self, refusal, shape, row, step):
        for handed in (list(row), tuple(row)):
            with self.subTest(row=row, step=step), self.assertRaises(refusal) as caught:
                step_done(shape, handed, step)
            self.assertIs(type(caught.exception), refusal)

    def cannot(self, shape, row, *words, at=0):
        """The row is one, and steps of these words can't be done there."""
        self.assertTrue(is_row(shape, row), row)
        for word in words or WORDS:
            self.refused(BadPiece, shape, row, (word, at))


class TouchesTest(unittest.TestCase):
    def test_each_piece(self):
        for piece, ends in (
            (("put", "b", NUMBER, 1), ["b"]), (("drop", "b", 1), ["b"]), (("turn", "b", ("cut", 1)), ["b"]),
            (("name", "b", "a"), ["a", "b"]), (("name", "a", "b"), ["a", "b"]), (("name", "a", "a"), ["a"]),
            (("split", "b", "-", "c", "a"), ["a", "b", "c"]), (("split", "b", "-", "c", "b"), ["b", "c"]),
            (("join", "c", "b", "-", "a"), ["a", "b", "c"]), (("join", "c", "b", "-", "c"), ["b", "c"]),
            (("part", "b", 3, "c", "a"), ["a", "b", "c"]), (("part", "b", 3, "a", "b"), ["a", "b"]),
            (("whole", "c", "b", 3, "a", 0, 9), ["a", "b", "c"]), (("whole", "c", "b", 3, "b", 0, 9), ["b", "c"]),
        ):
            for path in ((), ("z",), ("b", "each"), ("a", "each", "b", "each")):
                with self.subTest(piece=piece, path=path):
                    for again in range(2):
                        told = touches((path, piece))
                        self.assertIs(type(told), list)
                        self.assertEqual(told, [path + (end,) for end in ends])
                        told.clear()

    def test_the_field_in_the_box_but_not_the_box(self):
        for path in ((), ("m",), ("l", "each")):
            for piece in (("sink", "n", "b"), ("lift", "b", "n")):
                self.assertEqual(touches((path, piece)), [path + ("b", "n"), path + ("n",)])
            for piece in (("sink", "b", "n"), ("lift", "n", "b")):
                self.assertEqual(touches((path, piece)), [path + ("b",), path + ("n", "b")])

    def test_every_piece_at_spots_of_every_sort(self):
        for piece, line, signs in PIECED:
            for way in WAYS.values():
                self.assertEqual(touches((way.path, piece)), plain_touches((way.path, piece)))


class MeetTest(unittest.TestCase):
    def tells(self, one, other, expected):
        for first, second in ((one, other), (other, one)):
            with self.subTest(one=first, other=second):
                for again in range(2):
                    self.assertIs(meet(first, second), expected)

    def test_the_same_path(self):
        put = ((), ("put", "a", NUMBER, 1))
        for piece, expected in (
            (("put", "b", NUMBER, 1), False), (("drop", "a", 1), True), (("drop", "b", 1), False),
            (("drop", "aa", 1), False), (("name", "a", "b"), True), (("name", "b", "a"), True),
            (("name", "b", "c"), False), (("turn", "a", ("scale", 2)), True), (("turn", "b", ("scale", 2)), False),
            (("sink", "b", "a"), True), (("sink", "a", "b"), True), (("sink", "b", "c"), False),
            (("lift", "a", "b"), True), (("lift", "b", "a"), True), (("lift", "b", "c"), False),
            (("split", "b", "-", "c", "a"), True), (("split", "b", "-", "a", "d"), True),
            (("split", "b", "-", "c", "d"), False), (("join", "b", "a", "-", "c"), True),
            (("whole", "b", "c", 3, "a", 0, 9), True), (("whole", "b", "c", 3, "d", 0, 9), False),
        ):
            self.tells(put, ((), piece), expected)

    def test_the_beginning_of_another_path(self):
        deeper = (("a", "each"), ("name", "b", "c"))
        for change, expected in (
            (((), ("put", "a", NUMBER, 1)), True), (((), ("drop", "b", 1)), False), (((), ("drop", "c", 1)), False),
            ((("a",), ("drop", "b", 1)), False), (((), ("sink", "x", "a")), False),
            (((), ("turn", "a", ("first", 1))), True), (((), ("name", "x", "a")), True),
            ((("a", "each"), ("drop", "b", 1)), True), ((("a", "each"), ("drop", "d", 1)), False),
            ((("a", "each", "b"), ("drop", "z", 1)), True), ((("a", "each", "d"), ("drop", "b", 1)), False),
            ((("b", "each"), ("drop", "b", 1)), False), ((("a", "each", "c", "each"), ("drop", "z", 1)), True),
        ):
            self.tells(deeper, change, expected)

    def test_boxes(self):
        sink = ((), ("sink", "n", "b"))
        for change, expected in (
            (((), ("lift", "b", "n")), True), (((), ("lift", "b", "m")), False), (((), ("sink", "m", "b")), False),
            (((), ("drop", "b", rec())), True), (((), ("name", "b", "c")), True), ((("b",), ("drop", "n", 1)), True),
            ((("b",), ("drop", "m", 1)), False), ((("b", "n"), ("drop", "m", 1)), True),
            ((("n",), ("drop", "m", 1)), True), ((("m",), ("drop", "n", 1)), False),
        ):
            self.tells(sink, change, expected)

    def test_every_two_pieces(self):
        paths = ((), ("c",), ("l", "each"), ("l",), ("n", "each"))
        changes = [(path, piece) for path in paths for piece, line, signs in PIECED[::2]]
        for one, other in itertools.product(changes[::3], changes):
            self.assertIs(meet(one, other), plain_meet(one, other), (one, other))


class SwapTest(StepTest):
    SHAPE = record(a=NUMBER, b=TEXT, l=("list", record(x=NUMBER, y=TEXT), 2), m=record(c=NUMBER),
                   r=("rows", "k", record(k=TEXT, n=NUMBER), 2))
    APART = (
        ((), ("put", "z", NUMBER, 3)), ((), ("turn", "a", ("scale", 2))), ((), ("split", "b", "-", "b", "q")),
        (("l", "each"), ("drop", "x", 1)), (("l", "each"), ("name", "y", "u")), (("m",), ("put", "e", TEXT, "")),
        ((), ("lift", "m", "c")), (("r", "each"), ("part", "n", 3, "n", "p")), (("r", "each"), ("put", "t", TEXT, "")),
    )

    def test_neighbours_that_do_not_meet(self):
        for one, other in itertools.permutations(self.APART, 2):
            self.tells(self.SHAPE, [one, other], ("swap", 0), [other, one])

    def test_amid_a_row(self):
        row = list(self.APART)
        for at in range(len(row) - 1):
            self.tells(self.SHAPE, row, ("swap", at), row[:at] + [row[at + 1], row[at]] + row[at + 2:])

    def test_neighbours_that_meet(self):
        for row in (
            [((), ("put", "z", NUMBER, 3)), ((), ("drop", "z", 3))],
            [((), ("drop", "a", 3)), ((), ("put", "a", TEXT, ""))],
            [((), ("name", "a", "z")), ((), ("name", "z", "y"))], [((), ("name", "a", "z")), ((), ("name", "b", "a"))],
            [((), ("turn", "a", ("scale", 2))), ((), ("turn", "a", ("scale", 3)))],
            [((), ("name", "l", "k")), (("k", "each"), ("drop", "x", 0))],
            [(("l", "each"), ("drop", "x", 0)), ((), ("turn", "l", ("first", 1)))],
            [((), ("turn", "l", ("first", 1))), (("l", "each"), ("drop", "x", 0))],
            [(("m",), ("name", "c", "d")), ((), ("name", "m", "n"))],
            [((), ("lift", "m", "c")), ((), ("drop", "m", rec()))],
            [((), ("sink", "a", "m")), (("m",), ("drop", "a", 1))],
            [((), ("put", "z", record(), rec())), ((), ("sink", "a", "z"))],
            [((), ("name", "a", "a")), ((), ("name", "a", "a"))],
        ):
            self.cannot(self.SHAPE, row, "swap")

    def test_too_many_fields_amid(self):
        drop, put = ((), ("drop", "a", 0)), ((), ("put", "z", NUMBER, 0))
        self.cannot(letters(8), [drop, put], "swap")
        self.tells(letters(7), [drop, put], ("swap", 0), [put, drop])
        self.tells(letters(7), [put, drop], ("swap", 0), [drop, put])
        whole = record(l=("list", letters(8), 1))
        self.cannot(whole, [(("l", "each"), drop[1]), (("l", "each"), put[1])], "swap")
        boxed = record(a=NUMBER, b=NUMBER, m=letters(7))
        for piece in (("name", "a", "z"), ("name", "b", "z")):
            row = [((), piece), ((), ("sink", "z", "m")), (("m",), ("drop", "c", 0))]
            self.tells(boxed, row, ("swap", 1), [row[0], row[2], row[1]])
        row = [((), ("lift", "m", "c")), ((), ("name", "a", "z")), ((), ("sink", "z", "m"))]
        self.tells(record(a=NUMBER, b=NUMBER, m=letters(8)), row, ("swap", 0), [row[1], row[0], row[2]])
        self.cannot(record(a=NUMBER, b=NUMBER, m=letters(8)), row, "swap", at=1)
        row = [row[1], row[0], row[2]]
        self.cannot(record(a=NUMBER, b=NUMBER, m=letters(8)), row, "swap", at=1)

    def test_too_many_kinds_amid(self):
        for many in (40, 39, 38):
            shape = record(a=letters(8), b=letters(8), c=letters(8), d=letters(8), e=letters(many - 38))
            self.assertEqual(kind_many(shape), many)
            row = [(("a",), ("drop", "a", 0)), (("e",), ("put", "z", NUMBER, 0))]
            if many == 40:
                self.cannot(shape, row, "swap")
            else:
                self.tells(shape, row, ("swap", 0), [row[1], row[0]])

    def test_kept_as_they_are_behind_it(self):
        # The row behind the two stays one, as the shape behind them is the same.
        row = list(self.APART)[:2] + [((), ("name", "z", "y")), ((), ("turn", "a", ("shrink", 2)))]
        self.tells(self.SHAPE, row, ("swap", 0), [row[1], row[0]] + row[2:])


class OutTest(StepTest):
    def test_put_and_a_drop_with_any_value(self):
        for path in ((), ("m",), ("l", "each")):
            shape = record(b=TEXT, l=("list", record(c=CHOICE), 2), m=record())
            for kind, values in ((NUMBER, (0, 4, 9)), (TEXT, ("", "a", "abc")),
                                 (record(e=TEXT), (rec(e=""), rec(e="z"))),
                                 (("list", NUMBER, 2), (items(), items(1, 2)))):
                for value, other in itertools.product(values, values):
                    row = [(path, ("put", "a", kind, value)), (path, ("drop", "a", other))]
                    self.tells(shape, row, ("out", 0), [])

    def test_put_and_another_one(self):
        shape = record(a=NUMBER, m=record(b=NUMBER))
        put = ((), ("put", "b", NUMBER, 1))
        for other in (((), ("drop", "a", 1)), (("m",), ("drop", "b", 1)), ((), ("name", "b", "c")),
                      ((), ("put", "c", NUMBER, 1)), ((), ("turn", "b", ("bounds", 0, 9))), ((), ("sink", "b", "m"))):
            row = [put, other]
            if is_row(shape, row):
                self.cannot(shape, row, "out")

    def test_each_change_that_loses_never_and_its_change_about(self):
        never = 0
        for sample in all_changes(2):
            row = [sample.change, sample.about]
            plain = plain_done(sample.shape, row, ("out", 0))
            if plain is None:
                self.cannot(sample.shape, row, "out")
            else:
                never += 1
                self.assertEqual(step_done(sample.shape, row, ("out", 0)), [])
                self.assertEqual(plain, [])
        self.assertGreater(never, 100)

    def test_what_loses(self):
        for shape, piece, loses in (
            (record(a=NUMBER), ("drop", "a", 0), True), (record(a=("number", 3, 3)), ("drop", "a", 3), False),
            (record(a=("text", 0)), ("drop", "a", ""), False), (record(a=TEXT), ("drop", "a", ""), True),
            (record(a=NUMBER), ("turn", "a", ("bounds", -1, 9)), False),
            (record(a=NUMBER), ("turn", "a", ("bounds", 0, 9)), False),
            (record(a=NUMBER), ("turn", "a", ("bounds", 0, 8)), True),
            (record(a=NUMBER), ("turn", "a", ("bounds", 1, 20)), True),
            (record(a=NUMBER), ("turn", "a", ("scale", 7)), False),
            (record(a=NUMBER), ("turn", "a", ("shrink", 9)), True),
            (record(a=NUMBER), ("turn", "a", ("figures", 1)), False),
            (record(a=TEXT), ("turn", "a", ("number", 0, 9)), True),
            (record(a=TEXT), ("turn", "a", ("cut", 3)), False), (record(a=TEXT), ("turn", "a", ("cut", 2)), True),
            (record(a=TEXT), ("turn", "a", ("one", 1)), False),
            (record(a=("list", NUMBER, 2)), ("turn", "a", ("out",)), True),
            (record(a=TEXT), ("split", "a", "-", "b", "c"), True),
            (record(a=("text", 0)), ("split", "a", "-", "b", "c"), False),
            (record(a=TEXT, b=TEXT), ("join", "a", "b", "-", "c"), True),
            (record(a=NUMBER), ("part", "a", 3, "b", "c"), False),
            (record(a=("number", 0, 3), b=("number", 0, 2)), ("whole", "a", "b", 3, "c", 0, 11), False),
            (record(a=("number", 0, 3), b=("number", 0, 2)), ("whole", "a", "b", 3, "c", 0, 9), True),
            (record(a=CHOICE), ("turn", "a", ("words", ("x", "x"), (("x", "red"),))), True),
            (record(a=CHOICE), ("turn", "a", ("words", ("y", "x"), (("x", "blue"), ("y", "red")))), False),
            (record(a=NUMBER, m=record()), ("sink", "a", "m"), False),
            (record(m=record(a=TEXT)), ("lift", "m", "a"), False),
            (record(a=NUMBER), ("name", "a", "b"), False), (record(a=NUMBER), ("name", "a", "a"), False),
        ):
            row = [((), piece), change_about(((), piece), shape)]
            if loses:
                self.cannot(shape, row, "out")
            else:
                self.tells(shape, row, ("out", 0), [])

    def test_where_there_is_no_spot_nothing_loses(self):
        for most in (0, 1):
            for inner in (("list", record(a=NUMBER), most), ("rows", "k", record(a=NUMBER, k=TEXT), most)):
                row = [(("l", "each"), ("drop", "a", 4)), (("l", "each"), ("put", "a", NUMBER, 4))]
                if most == 0:
                    self.tells(record(l=inner), row, ("out", 0), [])
                else:
                    self.cannot(record(l=inner), row, "out")

    def test_no_change_about(self):
        shape = record(a=NUMBER, b=NUMBER, l=("list", record(a=NUMBER), 1), m=record(a=NUMBER))
        for one, other in (
            (((), ("turn", "a", ("scale", 2))), ((), ("turn", "b", ("shrink", 3)))),
            (((), ("turn", "a", ("scale", 6))), ((), ("turn", "a", ("shrink", 3)))),
            (((), ("name", "a", "c")), ((), ("name", "b", "a"))), (((), ("name", "a", "c")), ((), ("name", "c", "d"))),
            ((("m",), ("name", "a", "c")), ((), ("name", "a", "c"))),
            (((), ("drop", "a", 0)), ((), ("put", "a", NUMBER, 1))),
            (((), ("turn", "a", ("bounds", 0, 12))), ((), ("turn", "a", ("bounds", 0, 10)))),
            (((), ("turn", "a", ("bounds", 0, 12))), ((), ("turn", "a", ("bounds", 0, 8)))),
            (((), ("part", "a", 3, "c", "d")), ((), ("whole", "c", "d", 3, "a", 0, 10))),
            (((), ("part", "a", 3, "c", "d")), ((), ("whole", "c", "d", 3, "e", 0, 9))),
        ):
            self.cannot(shape, [one, other], "out")
        drop = [((), ("drop", "a", 3)), ((), ("put", "a", ("number", 3, 3), 3))]
        self.tells(record(a=("number", 3, 3)), drop, ("out", 0), [])
        self.cannot(record(a=("number", 3, 3)), [drop[0], ((), ("put", "a", ("number", 3, 4), 3))], "out")

    def test_amid_a_row(self):
        row = [((), ("put", "z", NUMBER, 3)), ((), ("turn", "a", ("scale", 2))), ((), ("turn", "a", ("shrink", 2))),
               ((), ("name", "z", "y"))]
        self.tells(record(a=NUMBER), row, ("out", 1), [row[0], row[3]])
        self.tells(record(a=NUMBER, z=NUMBER), row[1:], ("out", 0), row[3:])


class OneTest(StepTest):
    SHAPE = record(a=NUMBER, b=TEXT, c=CHOICE, l=("list", NUMBER, 4), r=("rows", "k", record(k=NUMBER), 4))

    def made(self, first, second, told, shape=None):
        """Two pieces, at the top and at deeper spots, are made this one, or can't be made one where it is None."""
        shape = shape or self.SHAPE
        for path, outer in (((), shape), (("x",), record(x=shape, y=NUMBER)),
                            (("x", "each"), record(x=("list", shape, 2), y=NUMBER))):
            row = [(path, first), (path, second)]
            if len(path) == 2 and not is_row(outer, row):
                # Lists within lists go too deep.
                continue
            self.assertTrue(is_row(outer, row), row)
            if told is None:
                self.cannot(outer, row, "one")
            else:
                self.tells(outer, row, ("one", 0), [(path, told)])

    def turned(self, kind, first, second, told):
        self.made(("turn", "v", first), ("turn", "v", second), told and ("turn", "v", told), record(a=NUMBER, v=kind))

    def test_names(self):
        self.made(("name", "a", "x"), ("name", "x", "y"), ("name", "a", "y"))
        self.made(("name", "a", "x"), ("name", "x", "a"), None)
        self.made(("name", "a", "a"), ("name", "a", "y"), ("name", "a", "y"))
        self.made(("name", "a", "x"), ("name", "x", "x"), ("name", "a", "x"))
        self.made(("name", "a", "a"), ("name", "a", "a"), None)
        self.made(("name", "a", "x"), ("name", "b", "a"), None)
        self.made(("name", "a", "x"), ("name", "b", "y"), None)

    def test_put_and_name(self):
        for kind, value in ((NUMBER, 3), (TEXT, "ab"), (("list", CHOICE, 2), items("red"))):
            self.made(("put", "x", kind, value), ("name", "x", "y"), ("put", "y", kind, value))
            self.made(("put", "x", kind, value), ("name", "x", "x"), ("put", "x", kind, value))
            self.made(("put", "x", kind, value), ("name", "a", "y"), None)

    def test_name_and_drop(self):
        for value in (0, 5):
            self.made(("name", "a", "x"), ("drop", "x", value), ("drop", "a", value))
            self.made(("name", "a", "a"), ("drop", "a", value), ("drop", "a", value))
            self.made(("name", "b", "x"), ("drop", "a", value), None)

    def test_put_and_turn(self):
        for kind, value, turn, behind, led in (
            (NUMBER, 3, ("scale", 4), ("number", 0, 36), 12), (("number", 0, 8), 7, ("shrink", 4), ("number", 0, 2), 1),
            (NUMBER, 3, ("bounds", 5, 6), ("number", 5, 6), 5), (NUMBER, 3, ("figures", 2), ("text", 2), "3"),
            (TEXT, "07", ("number", 1, 9), ("number", 1, 9), 1), (TEXT, "abc", ("cut", 2), ("text", 2), "ab"),
            (CHOICE, "red", ("words", ("x", "x"), (("x", "red"),)), ("choice", ("x",)), "x"),
            (("list", NUMBER, 2), items(1, 2), ("first", 1), ("list", NUMBER, 1), items(1)),
            (("list", NUMBER, 2), items(1, 2), ("out",), NUMBER, 1),
            (NUMBER, 3, ("one", 2), ("list", NUMBER, 2), items(3)),
            (("list", TEXT, 2), items("ab"), ("items", ("cut", 1)), ("list", ("text", 1), 2), items("a")),
        ):
            self.made(("put", "x", kind, value), ("turn", "x", turn), ("put", "x", behind, led))
        self.made(("put", "x", NUMBER, 3), ("turn", "a", ("scale", 2)), None)

    def test_turn_and_drop(self):
        for name, turn, value, told in (
            ("a", ("scale", 4), 11, 2), ("a", ("shrink", 3), 2, 6), ("a", ("shrink", 9), 1, 9),
            ("a", ("bounds", -5, 20), -5, 0), ("a", ("bounds", -5, 20), 20, 9), ("a", ("figures", 3), "12", 0),
            ("a", ("figures", 3), "7", 7), ("b", ("number", 0, 99), 12, "12"), ("b", ("cut", 9), "abcdefghi", "abc"),
            ("b", ("cut", 1), "a", "a"), ("c", ("words", ("x", "x"), (("x", "blue"),)), "x", "blue"),
            ("l", ("first", 8), items(*range(8)), items(0, 1, 2, 3)), ("l", ("out",), 5, items(5)),
            ("a", ("one", 2), items(), 0), ("a", ("one", 2), items(4, 5), 4),
            ("l", ("items", ("scale", 2)), items(5, 6), items(2, 3)),
        ):
            self.made(("turn", name, turn), ("drop", name, value), ("drop", name, told))
        self.made(("turn", "a", ("scale", 2)), ("drop", "b", ""), None)

    def test_scale_and_shrink(self):
        for one, two, told in ((2, 3, 6), (2, 2, 4), (2, 500, 1000), (500, 2, 1000), (20, 50, 1000), (25, 40, 1000),
                               (7, 143, None), (2, 501, None), (501, 2, None), (1000, 2, None), (1000, 1000, None)):
            self.turned(NUMBER, ("scale", one), ("scale", two), told and ("scale", told))
            kind = ("number", -one * two, 2 * one * two)
            self.turned(kind, ("shrink", one), ("shrink", two), told and ("shrink", told))
        self.turned(NUMBER, ("scale", 3), ("shrink", 3), None)
        self.turned(NUMBER, ("shrink", 3), ("scale", 3), None)
        self.turned(("number", -TOP, TOP), ("shrink", 10), ("shrink", 100), ("shrink", 1000))

    def test_bounds(self):
        for kind, one, two, told in (
            ((0, 9), (0, 9), (3, 4), True), ((0, 9), (0, 9), (-5, 50), True), ((0, 9), (-1, 10), (20, 30), True),
            ((0, 9), (1, 9), (0, 9), False), ((0, 9), (0, 8), (0, 9), False), ((0, 9), (3, 5), (3, 5), True),
            ((0, 9), (3, 5), (4, 4), True), ((0, 9), (3, 5), (3, 6), False), ((0, 9), (3, 5), (2, 5), False),
            ((0, 9), (3, 5), (7, 8), False), ((0, 9), (20, 30), (22, 25), True), ((0, 9), (20, 30), (0, 9), False),
            ((0, 9), (0, 8), (0, 8), True), ((0, 9), (0, 12), (0, 9), True), ((-TOP, TOP), (0, 1), (0, 1), True),
            ((4, 4), (4, 4), (9, 9), True), ((4, 4), (5, 5), (9, 9), False), ((0, 9), (1, 12), (2, 13), False),
        ):
            bounds = ("bounds", *two)
            self.turned(("number", *kind), ("bounds", *one), bounds, bounds if told else None)

    def test_cut_and_first(self):
        for elder, one, two in itertools.product(range(4), repeat=3):
            told = one >= elder or one >= two
            self.turned(("text", elder), ("cut", one), ("cut", two), ("cut", two) if told else None)
            for kind in (("list", CHOICE, elder), ("rows", "k", record(k=NUMBER), elder)):
                self.turned(kind, ("first", one), ("first", two), ("first", two) if told else None)

    def test_two_turns_that_go_not_together(self):
        for kind, one, two in (
            (NUMBER, ("bounds", 0, 9), ("scale", 2)), (NUMBER, ("scale", 2), ("bounds", 0, 18)),
            (NUMBER, ("figures", 3), ("cut", 2)), (TEXT, ("cut", 2), ("number", 0, 9)),
            (NUMBER, ("one", 2), ("first", 1)),
            (("list", NUMBER, 2), ("first", 1), ("out",)), (NUMBER, ("one", 2), ("out",)),
            (NUMBER, ("one", 2), ("one", 2)),
            (("list", NUMBER, 2), ("items", ("scale", 2)), ("items", ("scale", 2))),
            (("list", TEXT, 2), ("items", ("cut", 2)), ("items", ("cut", 1))),
            (NUMBER, ("figures", 1), ("number", 0, 9)),
            (CHOICE, ("words", ("x", "y"), (("x", "red"), ("y", "blue"))),
             ("words", ("y", "x"), (("y", "x"), ("x", "y")))),
        ):
            self.turned(kind, one, two, None)
        self.made(("turn", "a", ("scale", 2)), ("turn", "b", ("cut", 2)), None)
        shape = record(a=NUMBER, b=NUMBER)
        self.made(("turn", "a", ("scale", 2)), ("turn", "b", ("scale", 3)), None, shape)
        self.made(("turn", "a", ("bounds", 0, 9)), ("turn", "b", ("bounds", 0, 9)), None, shape)

    def test_other_pieces(self):
        shape = record(a=NUMBER, b=TEXT, d=TEXT, m=record(e=NUMBER))
        for one, two in (
            (("put", "x", NUMBER, 1), ("drop", "x", 1)), (("drop", "a", 1), ("put", "a", NUMBER, 1)),
            (("drop", "a", 1), ("drop", "b", "")), (("put", "x", NUMBER, 1), ("put", "y", NUMBER, 1)),
            (("name", "a", "x"), ("turn", "x", ("scale", 2))), (("turn", "a", ("scale", 2)), ("name", "a", "x")),
            (("drop", "a", 1), ("name", "b", "a")), (("sink", "a", "m"), ("lift", "m", "a")),
            (("put", "x", NUMBER, 1), ("sink", "x", "m")), (("lift", "m", "e"), ("drop", "e", 1)),
            (("split", "b", "-", "x", "y"), ("drop", "x", "")),
            (("split", "b", "-", "x", "y"), ("join", "x", "y", "-", "b")),
            (("part", "a", 3, "x", "y"), ("whole", "x", "y", 3, "a", 0, 9)),
            (("join", "b", "d", "-", "x"), ("drop", "x", "")),
            (("lift", "m", "e"), ("name", "e", "x")), (("part", "a", 3, "x", "y"), ("name", "x", "z")),
        ):
            self.made(one, two, None, shape)

    def test_unlike_paths(self):
        shape = record(a=NUMBER, m=record(a=NUMBER), n=record(a=NUMBER))
        for one, two in ((((), ("name", "a", "x")), (("m",), ("name", "a", "y"))),
                         ((("m",), ("turn", "a", ("scale", 2))), (("n",), ("turn", "a", ("scale", 2)))),
                         (((), ("put", "x", NUMBER, 1)), (("m",), ("drop", "a", 1))),
                         ((("m",), ("name", "a", "x")), (("n",), ("drop", "a", 1)))):
            self.cannot(shape, [one, two], "one")

    def test_amid_a_row(self):
        row = [((), ("put", "x", NUMBER, 3)), ((), ("turn", "a", ("scale", 2))), ((), ("turn", "a", ("scale", 3))),
               ((), ("name", "x", "y"))]
        self.tells(self.SHAPE, row, ("one", 1), [row[0], ((), ("turn", "a", ("scale", 6))), row[3]])
        self.cannot(self.SHAPE, row, "one", at=0)
        self.cannot(self.SHAPE, row, "one", at=2)

    def test_what_can_be_taken_out_and_made_one(self):
        row = [((), ("turn", "a", ("bounds", 0, 20))), ((), ("turn", "a", ("bounds", 0, 9)))]
        self.tells(self.SHAPE, row, ("out", 0), [])
        self.tells(self.SHAPE, row, ("one", 0), row[1:])


class RefusedTest(StepTest):
    SHAPE = record(a=NUMBER, b=TEXT)
    ROW = (((), ("name", "a", "c")), ((), ("name", "c", "d")), ((), ("drop", "b", "")))

    def test_no_place_with_a_next_one(self):
        for word in WORDS + ("none", "", "Swap", "swap "):
            for row in (self.ROW, self.ROW[:2], self.ROW[:1], ()):
                for at in (-3, -2, -1, len(row) - 1, len(row), len(row) + 1, 10 ** 30, -10 ** 30):
                    if not 0 <= at < len(row) - 1:
                        self.refused(BadVersion, self.SHAPE, row, (word, at))

    def test_another_word(self):
        for word in ("", "Swap", "swap ", "swaps", "ones", "put", "name", "none", "\"", "\n"):
            for at in (0, 1):
                self.refused(BadPiece, self.SHAPE, self.ROW, (word, at))

    def test_no_row_ahead_of_all_else(self):
        rows_of = [
            (BadPath, [(("z",), ("drop", "a", 0))]), (BadPath, [(("a",), ("drop", "a", 0))]),
            (BadPiece, [((), ("drop", "z", 0))]), (BadPiece, [((), ("none",))]), (BadPiece, [((), ())]),
            (BadTurn, [((), ("turn", "a", ("cut", 1)))]), (BadPiece, [self.ROW[0], self.ROW[0]]),
            (BadPiece, list(self.ROW) + [((), ("drop", "b", ""))]),
            (BadKind, [((), ("put", "x", record(y=record(z=record(w=record()))), least_value(
                record(y=record(z=record(w=record())))))), (("x", "y", "z", "w"), ("put", "v", NUMBER, 0))]),
            (Full, [((), ("name", "a", "c")), ((), ("name", "c", "a"))] * 10 + [((), ("name", "a", "c"))]),
        ]
        for refusal, row in rows_of:
            for step in (("swap", 0), ("out", 0), ("one", 0), ("none", 0), ("swap", -1), ("swap", len(row))):
                self.refused(refusal, self.SHAPE, row, step)
        for shape in (NUMBER, ("list", self.SHAPE, 2), ("rows", "a", self.SHAPE, 2), ("record",), (), deep(6),
                      ("record", (("b", TEXT), ("a", NUMBER)))):
            for row in (self.ROW, (), [((), ("none",))]):
                self.refused(BadKind, shape, row, ("swap", 0))

    def test_twenty_changes_are_not_too_many(self):
        row = [((), ("name", "a", "c")), ((), ("name", "c", "a"))] * 10
        for at in range(19):
            self.tells(self.SHAPE, row, ("out", at), row[:at] + row[at + 2:])


class DrawnTest(unittest.TestCase):
    def test_each_step_of_drawn_rows(self):
        done = 0
        for seed in range(60):
            chance = random.Random(seed)
            row = drawn_row(BOXED, chance.randint(2, 7), chance)
            for at, word in itertools.product(range(len(row) - 1), WORDS):
                plain = plain_done(BOXED, row, (word, at))
                with self.subTest(seed=seed, at=at, word=word):
                    if plain is None:
                        self.assertRaises(BadPiece, step_done, BOXED, row, (word, at))
                        continue
                    done += 1
                    self.assertEqual(step_done(BOXED, row, (word, at)), plain)
                    self.assertIsNone(unlike(BOXED, row, plain, chance, 3))
        self.assertGreater(done, 100)

    def test_each_record_of_a_small_shape(self):
        """What is done leaves a row alike: each record there, and each back."""
        shape = record(a=("number", -2, 3), b=("text", 2))
        first = [((), ("turn", "a", ("bounds", *some))) for some in ((-1, 2), (0, 3), (1, 1), (4, 6), (-2, 3))]
        first += [((), ("turn", "b", ("cut", most))) for most in range(4)]
        done = 0
        for one, other in itertools.product(first, first):
            row = [one, other]
            if is_row(shape, row):
                for word in WORDS:
                    told = plain_done(shape, row, (word, 0))
                    if told is None:
                        self.assertRaises(BadPiece, step_done, shape, row, (word, 0))
                    else:
                        done += 1
                        self.assertEqual(step_done(shape, row, (word, 0)), told)
                        self.alike(shape, row, told)
        self.assertGreater(done, 30)

    def alike(self, shape, row, other):
        last = plain_shapes(shape, row)[-1]
        self.assertEqual(plain_shapes(shape, other)[-1], last)
        for one in all_values(shape):
            self.assertEqual(led_along(shape, row, one), led_along(shape, other, one))
        for one in all_values(last, "a"):
            self.assertEqual(led_back_along(shape, row, one), led_back_along(shape, other, one))


if __name__ == "__main__":
    unittest.main()
