"""Paths and the kinds to which they lead: [2.1]."""

import unittest

from oldhands.errors import BadKind, BadPath
from oldhands.kinds import kind_depth, kind_many, made_kind
from oldhands.shapes import kind_at, kind_with

NUMBER = ("number", 0, 9)
TEXT = ("text", 5)
CHOICE = ("choice", ("red", "blue"))
ITEM = ("record", (("k", TEXT), ("n", ("list", NUMBER, 2))))
ROWS = ("rows", "k", ITEM, 4)
BOX = ("record", (("s", NUMBER), ("t", CHOICE)))
SHAPE = ("record", (("a", NUMBER), ("b", TEXT), ("c", CHOICE), ("d", BOX), ("l", ("list", BOX, 3)), ("r", ROWS)))

LEADING = (
    ((), SHAPE),
    (("a",), NUMBER),
    (("b",), TEXT),
    (("c",), CHOICE),
    (("d",), BOX),
    (("d", "s"), NUMBER),
    (("d", "t"), CHOICE),
    (("l",), ("list", BOX, 3)),
    (("l", "each"), BOX),
    (("l", "each", "t"), CHOICE),
    (("r",), ROWS),
    (("r", "each"), ITEM),
    (("r", "each", "k"), TEXT),
    (("r", "each", "n"), ("list", NUMBER, 2)),
    (("r", "each", "n", "each"), NUMBER),
)

NOWHERE = (
    ("z",), ("e",), ("aa",), ("s",), ("each",), ("d", "a"), ("d", "each"), ("d", "d"), ("l", "s"), ("l", "l"),
    ("l", "each", "each"), ("l", "each", "z"), ("r", "k"), ("r", "n"), ("r", "each", "each"), ("r", "each", "z"),
    ("r", "each", "n", "k"), ("a", "a"), ("a", "each"), ("b", "b"), ("b", "each"), ("c", "red"), ("c", "each"),
    ("r", "each", "n", "each", "each"), ("r", "each", "k", "each"), ("each", "a"), ("z", "a"), ("each", "d"),
    ("",), ("A",), ("a1",), ("abcdefghi",), ("a ",), (" a",), ("0",), ("EACH",), ("Each",), ("a\n",), ("d", ""),
    ("d", "", "s"), ("", "a"), ("/",), ("d/s",), ("record",), ("list",), ("a",) * 8, ("a",) * 9, ("each",) * 9,
    ("d", "s") + ("z",) * 7,
)


def lists(depth, inner=NUMBER):
    for level in range(depth):
        inner = ("list", inner, 1)
    return inner


class KindAtTest(unittest.TestCase):
    def test_the_shape_is_a_kind(self):
        made_kind(SHAPE)

    def test_where_paths_lead(self):
        for path, kind in LEADING:
            with self.subTest(path=path):
                self.assertEqual(kind_at(SHAPE, path), kind)
                self.assertEqual(kind_at(SHAPE, path), kind)

    def test_the_empty_path_of_every_kind(self):
        for kind in (NUMBER, TEXT, CHOICE, ("list", TEXT, 1), BOX, ROWS):
            self.assertEqual(kind_at(kind, ()), kind)

    def test_from_lists_and_rows(self):
        self.assertEqual(kind_at(("list", TEXT, 1), ("each",)), TEXT)
        self.assertEqual(kind_at(lists(4), ("each",) * 4), NUMBER)
        self.assertEqual(kind_at(ROWS, ("each", "n", "each")), NUMBER)

    def test_where_paths_lead_to_none(self):
        for path in NOWHERE:
            with self.subTest(path=path):
                with self.assertRaises(BadPath):
                    kind_at(SHAPE, path)

    def test_steps_from_what_has_none(self):
        for kind in (NUMBER, TEXT, CHOICE):
            for path in (("each",), ("a",), ("red",), ("number",), ("each", "each")):
                with self.subTest(kind=kind, path=path):
                    with self.assertRaises(BadPath):
                        kind_at(kind, path)
        for kind, path in ((BOX, ("each",)), (("list", BOX, 1), ("s",)), (ROWS, ("k",)), (("record", ()), ("a",)),
                           (("record", ()), ("each",)), (lists(4), ("each",) * 5), (ROWS, ("rows",))):
            with self.subTest(kind=kind, path=path):
                with self.assertRaises(BadPath):
                    kind_at(kind, path)

    def test_nine_steps_are_no_path(self):
        # Deeper than a kind may be, so that the count of steps alone is asked.
        self.assertEqual(kind_at(lists(8), ("each",) * 8), NUMBER)
        with self.assertRaises(BadPath):
            kind_at(lists(9), ("each",) * 9)

    def test_no_field_is_called_each(self):
        with self.assertRaises(BadPath):
            kind_at(("record", (("each", NUMBER),)), ("each",))


class KindWithTest(unittest.TestCase):
    def test_the_other_kind_is_there_and_all_else_as_it_was(self):
        other = ("text", 17)
        for path, kind in LEADING:
            if path in ((), ("r", "each")):
                continue
            with self.subTest(path=path):
                before = repr(SHAPE)
                told = kind_with(SHAPE, path, other)
                self.assertEqual(kind_at(told, path), other)
                self.assertEqual(kind_with(told, path, kind), SHAPE)
                for side, own in LEADING:
                    if side[:len(path)] != path and path[:len(side)] != side:
                        self.assertEqual(kind_at(told, side), own)
                self.assertEqual(repr(SHAPE), before)
                self.assertEqual(kind_with(SHAPE, path, other), told)

    def test_the_whole_outcome(self):
        other = ("number", 1, 2)
        item = ("record", (("k", TEXT), ("n", ("list", other, 2))))
        self.assertEqual(
            kind_with(SHAPE, ("r", "each", "n", "each"), other),
            ("record", (("a", NUMBER), ("b", TEXT), ("c", CHOICE), ("d", BOX), ("l", ("list", BOX, 3)),
                        ("r", ("rows", "k", item, 4)))))
        self.assertEqual(
            kind_with(SHAPE, ("l", "each"), other),
            ("record", (("a", NUMBER), ("b", TEXT), ("c", CHOICE), ("d", BOX), ("l", ("list", other, 3)),
                        ("r", ROWS))))

    def test_the_same_kind_again(self):
        for path, kind in LEADING:
            self.assertEqual(kind_with(SHAPE, path, kind), SHAPE)

    def test_the_empty_path(self):
        for kind in (NUMBER, TEXT, CHOICE, ("list", TEXT, 1), BOX, ROWS, SHAPE):
            self.assertEqual(kind_with(SHAPE, (), kind), kind)
            self.assertEqual(kind_with(NUMBER, (), kind), kind)

    def test_bad_paths(self):
        for path in NOWHERE:
            with self.subTest(path=path):
                with self.assertRaises(BadPath):
                    kind_with(SHAPE, path, NUMBER)
        with self.assertRaises(BadPath):
            kind_with(lists(9), ("each",) * 9, NUMBER)

    def test_bad_paths_go_ahead_of_bad_kinds(self):
        for path in NOWHERE:
            for other in ((), ("number", 1, 0), lists(9), ("record", (("each", NUMBER),))):
                with self.assertRaises(BadPath):
                    kind_with(SHAPE, path, other)

    def test_others_that_are_no_kinds(self):
        for path, kind in LEADING:
            for other in ((), ("number", 1, 0), ("text", 61), ("choice", ()), ("list", NUMBER, 9), ("z",),
                          ("record", (("each", NUMBER),)), ("rows", "z", BOX, 1), ("number", 0), (("text", 1),)):
                with self.subTest(path=path, other=other):
                    with self.assertRaises(BadKind):
                        kind_with(SHAPE, path, other)

    def test_too_deep(self):
        self.assertEqual(kind_depth(kind_with(SHAPE, ("a",), lists(3))), 5)
        for path, depth in ((("a",), 4), (("d", "s"), 3), (("l", "each"), 3), (("r", "each", "n", "each"), 1), ((), 5)):
            with self.subTest(path=path):
                kind_with(SHAPE, path, lists(depth - 1))
                with self.assertRaises(BadKind):
                    kind_with(SHAPE, path, lists(depth))

    def test_too_many(self):
        def wide(count):
            return ("record", tuple([("abcdefgh"[at], NUMBER) for at in range(count)]))

        def shape(last):
            return ("record", tuple([(name, wide(8)) for name in "abcd"]) + (("e", wide(last)),))

        full = shape(2)
        self.assertEqual(kind_many(full), 40)
        self.assertEqual(kind_with(full, ("e",), wide(2)), full)
        with self.assertRaises(BadKind):
            kind_with(full, ("e",), wide(3))
        with self.assertRaises(BadKind):
            kind_with(full, ("a", "a"), ("list", NUMBER, 1))
        self.assertEqual(kind_many(kind_with(shape(1), ("a", "a"), ("list", NUMBER, 1))), 40)

    def test_keys_of_rows(self):
        for other in (CHOICE, ("list", NUMBER, 1), ("record", ()), BOX):
            with self.subTest(other=other):
                with self.assertRaises(BadKind):
                    kind_with(SHAPE, ("r", "each", "k"), other)
                with self.assertRaises(BadKind):
                    kind_with(ROWS, ("each", "k"), other)
        self.assertEqual(kind_at(kind_with(SHAPE, ("r", "each", "k"), NUMBER), ("r", "each", "k")), NUMBER)

    def test_items_of_rows(self):
        for other in (NUMBER, TEXT, CHOICE, ("list", ITEM, 1), BOX, ("record", ()), ("record", (("k", CHOICE),))):
            with self.subTest(other=other):
                with self.assertRaises(BadKind):
                    kind_with(SHAPE, ("r", "each"), other)
        other = ("record", (("k", NUMBER),))
        self.assertEqual(kind_at(kind_with(SHAPE, ("r", "each"), other), ("r",)), ("rows", "k", other, 4))


if __name__ == "__main__":
    unittest.main()
