"""Places, wheres and spots: [2.2], [2.3], and of the head [0.2], [0.3]."""

import itertools
import unittest

from oldhands.kinds import made_kind
from oldhands.shapes import kind_at
from oldhands.spots import spots, value_at, wheres, with_values
from oldhands.values import is_of
from samples import all_paths, items, rec, record, rows
from ways import plain_places

NUMBER = ("number", -99, 99)
TEXT = ("text", 6)
CHOICE = ("choice", ("red", "blue"))
LINE = record(n=NUMBER)
BY_NUMBER = ("rows", "k", record(k=NUMBER, l=("list", NUMBER, 3), t=TEXT), 5)
BY_TEXT = ("rows", "t", record(b=record(x=NUMBER), k=NUMBER, t=TEXT), 8)
GRID = ("list", ("list", LINE, 3), 3)
LISTED = ("list", ("rows", "t", record(n=NUMBER, t=TEXT), 2), 3)
SHAPE = made_kind(record(a=NUMBER, b=("list", TEXT, 4), c=BY_NUMBER, d=BY_TEXT, e=record(x=TEXT, y=CHOICE), g=GRID,
                         m=LISTED))


def line(n):
    return rec(n=n)


VALUE = rec(
    a=5,
    b=items("one", "two", "one"),
    c=rows(
        rec(k=-2, l=items(1, 2), t="x"),
        rec(k=0, l=items(), t=""),
        rec(k=7, l=items(1), t="x"),
        rec(k=10, l=items(4, 4, 3), t="y"),
    ),
    d=rows(*[rec(b=rec(x=at), k=at, t=text) for at, text in enumerate(("", "10", "9", "a", "each", "t"))]),
    e=rec(x="mm", y="blue"),
    g=items(items(line(1), line(2)), items(), items(line(3), line(1))),
    m=items(rows(rec(n=1, t="b"), rec(n=0, t="c")), rows(), rows(rec(n=1, t="a"))),
)
NONE = rec(a=0, b=items(), c=rows(), d=rows(), e=rec(x="", y="red"), g=items(), m=items())


class WheresTest(unittest.TestCase):
    def test_the_samples_are_of_the_shape(self):
        self.assertIs(is_of(VALUE, SHAPE), True)
        self.assertIs(is_of(NONE, SHAPE), True)

    def told(self, path, expected, value=VALUE):
        with self.subTest(path=path):
            self.assertEqual(wheres(SHAPE, value, path), expected)
            self.assertIsInstance(wheres(SHAPE, value, path), list)

    def test_the_empty_path(self):
        self.told((), [()])
        self.told((), [()], NONE)
        for kind, value in ((NUMBER, 3), (TEXT, ""), (CHOICE, "red"), (GRID, items()), (BY_TEXT, rows())):
            self.assertEqual(wheres(kind, value, ()), [()])

    def test_names(self):
        self.told(("a",), [("a",)])
        self.told(("e",), [("e",)])
        self.told(("e", "y"), [("e", "y")])
        self.told(("c",), [("c",)], NONE)

    def test_each_of_lists(self):
        self.told(("b", "each"), [("b", 0), ("b", 1), ("b", 2)])
        self.assertEqual(wheres(("list", TEXT, 2), items("q", "q"), ("each",)), [(0,), (1,)])

    def test_each_of_rows_by_number_keys(self):
        self.told(("c", "each"), [("c", -2), ("c", 0), ("c", 7), ("c", 10)])
        self.told(("c", "each", "t"), [("c", -2, "t"), ("c", 0, "t"), ("c", 7, "t"), ("c", 10, "t")])

    def test_each_of_rows_by_text_keys(self):
        keys = ("", "10", "9", "a", "each", "t")
        self.told(("d", "each"), [("d", key) for key in keys])
        self.told(("d", "each", "b", "x"), [("d", key, "b", "x") for key in keys])
        # A name of the path is none of the keys.
        self.told(("d", "each", "t"), [("d", key, "t") for key in keys])

    def test_two_each_one_within_another(self):
        self.told(("g", "each", "each"), [("g", 0, 0), ("g", 0, 1), ("g", 2, 0), ("g", 2, 1)])
        self.told(("g", "each", "each", "n"), [("g", 0, 0, "n"), ("g", 0, 1, "n"), ("g", 2, 0, "n"), ("g", 2, 1, "n")])
        self.told(("c", "each", "l", "each"), [
            ("c", -2, "l", 0), ("c", -2, "l", 1), ("c", 7, "l", 0),
            ("c", 10, "l", 0), ("c", 10, "l", 1), ("c", 10, "l", 2),
        ])
        self.told(("m", "each", "each", "n"), [("m", 0, "b", "n"), ("m", 0, "c", "n"), ("m", 2, "a", "n")])

    def test_rows_within_rows(self):
        kind = made_kind(("rows", "k", record(k=NUMBER, r=("rows", "t", record(t=TEXT), 2)), 3))
        value = rows(rec(k=3, r=rows(rec(t="x"), rec(t="y"))), rec(k=4, r=rows()), rec(k=20, r=rows(rec(t="a"))))
        self.assertEqual(wheres(kind, value, ("each", "r", "each", "t")),
                         [(3, "r", "x", "t"), (3, "r", "y", "t"), (20, "r", "a", "t")])
        self.assertEqual(spots(kind, value, ("each", "r", "each")),
                         [((3, "r", "x"), rec(t="x")), ((3, "r", "y"), rec(t="y")), ((20, "r", "a"), rec(t="a"))])

    def test_no_items(self):
        for path in (("b", "each"), ("c", "each"), ("c", "each", "t"), ("d", "each"), ("g", "each"),
                     ("g", "each", "each"), ("c", "each", "l", "each")):
            self.told(path, [], NONE)

    def test_all_paths(self):
        paths = all_paths(SHAPE)
        self.assertIn(("g", "each", "each", "n"), paths)
        for path in paths:
            for value in (VALUE, NONE):
                self.told(path, list(plain_places(SHAPE, value, path)), value)


class ValueAtTest(unittest.TestCase):
    def test_every_place(self):
        seen = 0
        for path in all_paths(SHAPE):
            for where, value in plain_places(SHAPE, VALUE, path).items():
                with self.subTest(where=where):
                    self.assertEqual(value_at(SHAPE, VALUE, where), value)
                    self.assertIs(is_of(value_at(SHAPE, VALUE, where), kind_at(SHAPE, path)), True)
                    seen += 1
        self.assertGreater(seen, 60)

    def test_some_places(self):
        self.assertEqual(value_at(SHAPE, VALUE, ()), VALUE)
        self.assertEqual(value_at(SHAPE, VALUE, ("a",)), 5)
        self.assertEqual(value_at(SHAPE, VALUE, ("b", 2)), "one")
        self.assertEqual(value_at(SHAPE, VALUE, ("c", 10, "l", 2)), 3)
        self.assertEqual(value_at(SHAPE, VALUE, ("g", 2, 0)), line(3))
        self.assertEqual(value_at(SHAPE, VALUE, ("m", 0, "c", "n")), 0)
        self.assertEqual(value_at(SHAPE, VALUE, ("c", 0, "t")), "")
        self.assertEqual(value_at(SHAPE, VALUE, ("d", "", "k")), 0)
        # each is a key like any other text, where a row has it.
        self.assertEqual(value_at(SHAPE, VALUE, ("d", "each", "b", "x")), 4)
        self.assertEqual(value_at(NUMBER, 0, ()), 0)
        self.assertEqual(value_at(TEXT, "", ()), "")

    def test_no_such_place(self):
        for where in (
            ("b", -1), ("b", 3), ("b", 10 ** 59), ("g", 0, 2), ("g", 1, 0), ("g", 3), ("g", 0, -1),
            ("c", 1), ("c", -3), ("c", 2), ("c", 11), ("c", 7, "l", 1), ("c", 0, "l", 0),
            ("d", "b"), ("d", "11"), ("d", " "), ("d", "x", "k"),
            ("f",), ("aa",), ("",), ("A",), ("x",), ("e", "z"), ("c", 7, "n"), ("g", 0, 0, "m"),
            ("m", 0, "a"), ("m", 1, "b"),
            (0,), (5,), ("e", 0), ("c", 7, 0), ("c", 7, "l", 0, 0),
            ("b", "0"), ("b", ""), ("b", "one"), ("c", "7"), ("c", "x"), ("d", 0), ("d", 10), ("d", 9), ("g", "0", 0),
            ("each",), ("b", "each"), ("c", "each"), ("c", "each", "t"), ("g", "each", "each"), ("e", "each"),
            ("a", 0), ("a", "a"), ("b", 0, 0), ("b", 0, "o"), ("g", 0, 0, "n", 0), ("c", 7, "t", 0),
            ("e", "x", "m"), ("e", "y", "blue"),
            ("a", 0, 0, 0, 0, 0, 0, 0, 0, 0),
        ):
            with self.subTest(where=where):
                self.assertIsNone(value_at(SHAPE, VALUE, where))
        self.assertIsNone(value_at(NUMBER, 3, (0,)))
        self.assertIsNone(value_at(TEXT, "abc", (0,)))
        self.assertIsNone(value_at(CHOICE, "red", ("red",)))
        self.assertIsNone(value_at(SHAPE, NONE, ("d", "each")))


class SpotsTest(unittest.TestCase):
    def test_spots(self):
        self.assertEqual(spots(SHAPE, VALUE, ()), [((), VALUE)])
        self.assertEqual(spots(SHAPE, VALUE, ("e",)), [(("e",), rec(x="mm", y="blue"))])
        self.assertEqual(spots(SHAPE, VALUE, ("c", "each")), [
            (("c", -2), rec(k=-2, l=items(1, 2), t="x")), (("c", 0), rec(k=0, l=items(), t="")),
            (("c", 7), rec(k=7, l=items(1), t="x")), (("c", 10), rec(k=10, l=items(4, 4, 3), t="y")),
        ])
        self.assertEqual(spots(SHAPE, VALUE, ("g", "each", "each")), [
            (("g", 0, 0), line(1)), (("g", 0, 1), line(2)), (("g", 2, 0), line(3)), (("g", 2, 1), line(1)),
        ])
        self.assertEqual(spots(SHAPE, VALUE, ("m", "each", "each")), [
            (("m", 0, "b"), rec(n=1, t="b")), (("m", 0, "c"), rec(n=0, t="c")), (("m", 2, "a"), rec(n=1, t="a")),
        ])
        self.assertEqual(spots(SHAPE, VALUE, ("d", "each", "b"))[3:5],
                         [(("d", "a", "b"), rec(x=3)), (("d", "each", "b"), rec(x=4))])

    def test_no_spots(self):
        for path in (("c", "each"), ("d", "each", "b"), ("g", "each", "each"), ("m", "each", "each")):
            self.assertEqual(spots(SHAPE, NONE, path), [])

    def test_spots_of_every_path_to_a_record_kind(self):
        for path in all_paths(SHAPE):
            if kind_at(SHAPE, path)[0] == "record":
                told = spots(SHAPE, VALUE, path)
                self.assertIsInstance(told, list)
                self.assertEqual(told, list(plain_places(SHAPE, VALUE, path).items()))
                self.assertTrue(all(isinstance(spot, tuple) for spot in told))


def other_value(kind, value):
    """Another value than this one, a key of rows as it was."""
    match kind:
        case ("number", *_):
            return value + 1
        case ("record", fields):
            return ("record", tuple((name, other_value(inner, own) if name not in "kt" else own)
                                    for (name, inner), (_, own) in zip(fields, value[1])))
        case (word, *_) if word in ("list", "rows"):
            return (word, value[1][1:])
    return value + "~"


class WithValuesTest(unittest.TestCase):
    def test_none(self):
        self.assertEqual(with_values(SHAPE, VALUE, []), VALUE)
        self.assertEqual(with_values(SHAPE, VALUE, ()), VALUE)
        self.assertEqual(with_values(NUMBER, 3, []), 3)

    def test_the_empty_where(self):
        self.assertEqual(with_values(SHAPE, VALUE, [((), NONE)]), NONE)
        self.assertEqual(with_values(NUMBER, 3, [((), 4)]), 4)

    def test_one_place(self):
        told = with_values(SHAPE, VALUE, [(("c", 7, "l", 0), 50)])
        self.assertEqual(value_at(SHAPE, told, ("c", 7)), rec(k=7, l=items(50), t="x"))
        self.assertEqual(with_values(SHAPE, told, [(("c", 7, "l", 0), 1)]), VALUE)
        self.assertEqual(with_values(("list", TEXT, 3), items("a", "b", "c"), [((1,), "z")]), items("a", "z", "c"))
        self.assertEqual(with_values(LINE, line(3), [(("n",), 4)]), line(4))

    def test_some_places_in_any_order(self):
        some = [(("g", 0, 1, "n"), 11), (("g", 2, 0, "n"), 12), (("g", 0, 0, "n"), 13)]
        for row in itertools.permutations(some):
            told = with_values(SHAPE, VALUE, list(row))
            self.assertEqual(value_at(SHAPE, told, ("g",)),
                             items(items(line(13), line(11)), items(), items(line(12), line(1))))
            self.assertEqual(with_values(SHAPE, told, [(("g",), value_at(SHAPE, VALUE, ("g",)))]), VALUE)
            self.assertEqual(with_values(SHAPE, VALUE, row), told)

    def test_by_text_keys(self):
        told = with_values(SHAPE, VALUE, [(("d", "each", "b", "x"), 40), (("d", "", "b", "x"), 41)])
        self.assertEqual([one[1][0][1] for one in value_at(SHAPE, told, ("d",))[1]],
                         [rec(x=41), rec(x=1), rec(x=2), rec(x=3), rec(x=40), rec(x=5)])

    def test_none_some_and_all_places_of_every_path(self):
        for path in all_paths(SHAPE):
            if path[-1:] in (("k",), ("t",)):
                continue
            known = plain_places(SHAPE, VALUE, path)
            every = [(where, other_value(kind_at(SHAPE, path), value)) for where, value in known.items()]
            for some in ([], every[:1], every[-1:], every[1:], every[::2], every, every[::-1]):
                with self.subTest(path=path, some=some):
                    told = with_values(SHAPE, VALUE, some)
                    self.assertEqual(plain_places(SHAPE, told, path), {**known, **dict(some)})
                    # All else is as it was: with the elder values there again it is the elder value.
                    self.assertEqual(with_values(SHAPE, told, [(where, known[where]) for where, other in some]), VALUE)

    def test_values_of_other_kinds(self):
        told = with_values(SHAPE, VALUE, [(("c", 7), rec(k=7, z=rec())), (("c", 10), rec(k=10))])
        self.assertEqual(dict(told[1])["c"], rows(
            rec(k=-2, l=items(1, 2), t="x"), rec(k=0, l=items(), t=""), rec(k=7, z=rec()), rec(k=10),
        ))
        told = with_values(SHAPE, VALUE, [(("g", 0, 0), rec(m="q", n=1)), (("g", 2, 1), rec())])
        self.assertEqual(dict(told[1])["g"],
                         items(items(rec(m="q", n=1), line(2)), items(), items(line(3), rec())))

    def test_what_is_handed_in_stays(self):
        some = [(("g", 0, 1), line(11)), (("g", 2, 0), line(12))]
        before = (repr(VALUE), repr(SHAPE))
        told = with_values(SHAPE, VALUE, some)
        self.assertEqual(some, [(("g", 0, 1), line(11)), (("g", 2, 0), line(12))])
        self.assertEqual((repr(VALUE), repr(SHAPE)), before)
        kept = repr(told)
        some.clear()
        self.assertEqual(repr(told), kept)

    def test_a_told_list_is_the_askers_own(self):
        for path in (("c", "each"), ("d", "each", "b"), ()):
            for ask in (wheres, spots):
                first = ask(SHAPE, VALUE, path)
                known = list(first)
                first.append("more")
                first.reverse()
                self.assertEqual(ask(SHAPE, VALUE, path), known)
                self.assertIsNot(ask(SHAPE, VALUE, path), ask(SHAPE, VALUE, path))


if __name__ == "__main__":
    unittest.main()
