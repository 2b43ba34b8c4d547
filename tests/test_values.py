"""Values: [1.2], [1.3], and the signs of [0.3]."""

import unittest

from oldhands.errors import BadValue
from oldhands.values import field_of, is_of, least_value, made_value, with_fields, without_fields

TOP = 10 ** 30
NUMBER = ("number", -3, 7)
TEXT = ("text", 3)
CHOICE = ("choice", ("red", "blue", "a"))
LIST = ("list", NUMBER, 2)
RECORD = ("record", (("a", NUMBER), ("b", TEXT)))
ROWS = ("rows", "a", RECORD, 2)
BY_TEXT = ("rows", "b", RECORD, 3)
SORTS = (NUMBER, TEXT, CHOICE, LIST, RECORD, ROWS)

SIGNS = set(map(chr, range(ord(" "), ord("~") + 1))) - set('"%')

# Numbers, texts and tuples that are of none of the kinds above.
STRANGERS = (-4, 8, TOP, "abcd", "Reds", "a\n", '"', "%", (), ((),), ("list",), ("record",), ("rows",), ("list", 0),
             ("list", "a"), ("record", "a"), ("record", 0), ("rows", 0), ("rows", ""), ("tuple", ()), (0,), (0, 0),
             ("a",), ("a", 0), ("list", (), ()), ("record", (), ()), ("rows", (), ()), ("List", ()), ((), ()),
             (("list", ()),), ("number", 0), ("text", ""), ("number", -3, 7), ("list", ((),)), ("rows", ((),)),
             ("record", ((),)))


def rec(**fields):
    return ("record", tuple(sorted(fields.items())))


def items(*some):
    return ("list", tuple(some))


def rows(*some):
    return ("rows", tuple(some))


def places(thing, above=()):
    found = [above]
    if isinstance(thing, tuple):
        for at, inner in enumerate(thing):
            found.extend(places(inner, above + (at,)))
    return found


def put_at(thing, place, other):
    if not place:
        return other
    at = place[0]
    return thing[:at] + (put_at(thing[at], place[1:], other),) + thing[at + 1:]


def is_plainly_of(value, kind):
    """The document's words for a value of a kind once more, as one question."""
    match kind, value:
        case ("number", low, high), int():
            return low <= value <= high
        case ("text", most), str():
            return len(value) <= most and not set(value) - SIGNS
        case ("choice", words), str():
            return any(value == word for word in words)
        case ("list", inner, most), ("list", tuple(found)):
            return len(found) <= most and all(is_plainly_of(item, inner) for item in found)
        case ("record", fields), ("record", tuple(pairs)):
            if not all(isinstance(pair, tuple) and len(pair) == 2 for pair in pairs):
                return False
            if [pair[0] for pair in pairs] != [field[0] for field in fields]:
                return False
            return all(is_plainly_of(pair[1], field[1]) for pair, field in zip(pairs, fields))
        case ("rows", key, inner, most), ("rows", tuple(found)):
            if len(found) > most or not all(is_plainly_of(item, inner) for item in found):
                return False
            keys = [dict(item[1])[key] for item in found]
            return keys == sorted(set(keys))
    return False


def around(value, kind):
    """Pairs of value and kind: by itself, and deep within each sort that holds others."""
    yield value, kind
    yield items(value), ("list", kind, 2)
    yield rec(a=1, b=value), ("record", (("a", NUMBER), ("b", kind)))
    keyed = ("record", (("a", NUMBER), ("b", kind)))
    yield rows(rec(a=1, b=value)), ("rows", "a", keyed, 2)
    yield items(rec(x=items(value))), ("list", ("record", (("x", ("list", kind, 1)),)), 1)


class OfKindTest(unittest.TestCase):
    def of(self, value, kind):
        for whole, outer in around(value, kind):
            with self.subTest(value=whole, kind=outer):
                self.assertIs(is_of(whole, outer), True)
                self.assertIs(is_of(whole, outer), True)
                self.assertIs(made_value(whole, outer), whole)

    def not_of(self, value, kind):
        for whole, outer in around(value, kind):
            with self.subTest(value=whole, kind=outer):
                before = repr(whole)
                self.assertIs(is_of(whole, outer), False)
                self.assertIs(is_of(whole, outer), False)
                with self.assertRaises(BadValue):
                    made_value(whole, outer)
                self.assertEqual(repr(whole), before)

    def test_numbers(self):
        for value in (-3, -2, 0, 6, 7):
            self.of(value, NUMBER)
        for value in (-4, 8, -TOP, 10 ** 59):
            self.not_of(value, NUMBER)
        self.of(5, ("number", 5, 5))
        self.not_of(4, ("number", 5, 5))
        self.not_of(0, ("number", 5, 9))
        self.of(TOP, ("number", -TOP, TOP))
        self.of(-TOP, ("number", -TOP, TOP))
        self.not_of(TOP + 1, ("number", -TOP, TOP))
        self.not_of(-TOP - 1, ("number", -TOP, TOP))
        for value in ("", "0", "5", (), (5,), ("number", 5)):
            self.not_of(value, NUMBER)

    def test_true_and_false_are_no_numbers(self):
        for value in (True, False):
            self.not_of(value, NUMBER)

    def test_text_lengths(self):
        for value in ("", "a", "abc", "   ", "ABC", "0", "-1"):
            self.of(value, TEXT)
        for value in ("abcd", "    ", "a" * 61):
            self.not_of(value, TEXT)
        self.of("", ("text", 0))
        self.not_of("a", ("text", 0))
        self.of("x" * 60, ("text", 60))
        self.not_of("x" * 61, ("text", 60))
        for value in (0, 3, (), ("a",), ("text", "a"), items("a")):
            self.not_of(value, TEXT)

    def test_text_signs(self):
        for code in range(32, 127):
            sign = chr(code)
            for value in (sign, "a" + sign, sign + "a", "a" + sign + "a"):
                if sign in '"%':
                    self.not_of(value, TEXT)
                else:
                    self.of(value, TEXT)
        for value in ("\n", "a\n", "\na", "a\na", '"', '""', "%", "%s"):
            self.not_of(value, TEXT)

    def test_choices(self):
        for value in ("red", "blue", "a"):
            self.of(value, CHOICE)
        for value in ("", "re", "redd", "green", "Red", "red ", "redblue", "each", 0, 1, (), ("red",),
                      ("red", "blue", "a"), CHOICE):
            self.not_of(value, CHOICE)
        # A choice of one word has no letters of it as words.
        self.not_of("r", ("choice", ("red",)))

    def test_lists(self):
        for value in (items(), items(0), items(7, -3), items(1, 1), items(2, 1)):
            self.of(value, LIST)
        for value in (items(1, 2, 3), items(8), items(0, -4), items("a"), items(0, ""), items(()), items(items()),
                      rows(), rows(0), ("record", ()), ("list", 0), ("list", ""), ("list",), ("list", (0,), 2),
                      ("list", 0, 1), (0, 1), (), 0, "list"):
            self.not_of(value, LIST)
        self.of(items(), ("list", NUMBER, 0))
        self.not_of(items(0), ("list", NUMBER, 0))
        self.of(items(*[0] * 8), ("list", NUMBER, 8))
        self.not_of(items(*[0] * 9), ("list", NUMBER, 8))

    def test_records(self):
        for value in (rec(a=0, b=""), rec(a=-3, b="abc"), rec(a=7, b="~")):
            self.of(value, RECORD)
        self.of(("record", ()), ("record", ()))
        self.not_of(rec(a=0), ("record", ()))
        for value in (rec(a=8, b=""), rec(a=0, b="abcd"), rec(a="", b=0), rec(a=0, b=0), rec(a=0, b=()),
                      rec(a=0, b=rec(b="")), rec(a=-4, b="\n")):
            self.not_of(value, RECORD)

    def test_records_of_other_fields(self):
        for pairs in ((), (("a", 0),), (("b", ""),), (("a", 0), ("b", ""), ("c", 0)), (("a", 0), ("c", "")),
                      (("b", ""), ("a", 0)), (("a", 0), ("a", 0)), (("a", 0), ("a", 0), ("b", "")),
                      (("a", 0), ("b", ""), ("b", "")), (("a", ""), ("b", 0)), (("A", 0), ("b", "")),
                      (("a", 0), ("each", "")), ((0, "a"), ("", "b")), (("a", 0), ("b",)), (("a", 0), "b"),
                      (("a", 0), "b"), (("a", 0), ("b", "", "")), ("ab", "b"), (0, 0), ((), ()),
                      ((("a",), 0), ("b", ""))):
            self.not_of(("record", pairs), RECORD)
        for value in (("list", (("a", 0), ("b", ""))), ("rows", (("a", 0), ("b", ""))), (("a", 0), ("b", "")),
                      ("record", "ab"), ("record",), ("record", ("a", 0), ("b", "")), "record", 0, ()):
            self.not_of(value, RECORD)

    def test_rows(self):
        one, two, three = rec(a=-1, b="z"), rec(a=0, b="m"), rec(a=5, b="a")
        for value in (rows(), rows(one), rows(one, two), rows(two, three), rows(one, three)):
            self.of(value, ROWS)
        self.not_of(rows(one, two, three), ROWS)
        self.of(rows(), ("rows", "a", RECORD, 0))
        self.not_of(rows(one), ("rows", "a", RECORD, 0))
        many = [rec(a=at, b="") for at in range(-3, 6)]
        self.of(rows(*many[:8]), ("rows", "a", RECORD, 8))
        self.not_of(rows(*many), ("rows", "a", RECORD, 8))

    def test_rows_keys(self):
        one, two, three = rec(a=-1, b="z"), rec(a=0, b="m"), rec(a=5, b="a")
        for value in (rows(two, one), rows(one, one), rows(rec(a=1, b="a"), rec(a=1, b="b")),
                      rows(rec(a=1, b="b"), rec(a=1, b="a"))):
            self.not_of(value, ROWS)
        for value in (rows(three, two, one), rows(rec(a=1, b=""), rec(a=1, b="a"), rec(a=0, b="aa")),
                      rows(rec(a=1, b="10"), rec(a=1, b="9")), rows(rec(a=1, b="B"), rec(a=1, b="a"))):
            self.of(value, BY_TEXT)
        for value in (rows(one, two), rows(one, one), rows(rec(a=0, b="a"), rec(a=1, b="a")),
                      rows(rec(a=1, b="a"), rec(a=2, b="b"), rec(a=3, b="a")),
                      rows(rec(a=1, b="a"), rec(a=2, b="c"), rec(a=3, b="b")),
                      rows(rec(a=1, b="9"), rec(a=1, b="10"))):
            self.not_of(value, BY_TEXT)

    def test_rows_of_other_forms(self):
        one = rec(a=1, b="")
        for value in (("list", (one,)), ("record", (one,)), ("rows", one), ("rows", one, one), ("rows",), (one,),
                      rows(0), rows(""), rows(()), rows(one, 0), rows(rec(a=8, b="")), rows(rec(a=1)), rows(rec(b="")),
                      rows(rec(a="1", b="")), rows(("list", one[1])), rows(one[1]), rows(one, rec(a="2", b="")),
                      rows(rec(a=(), b="")), 0, "", "rows", ()):
            self.not_of(value, ROWS)

    def test_strangers_in_every_place(self):
        whole = ("record", (("a", NUMBER), ("b", LIST), ("c", CHOICE), ("d", ROWS), ("e", RECORD)))
        value = rec(a=1, b=items(2, 3), c="red", d=rows(rec(a=1, b="x"), rec(a=2, b="y")), e=rec(a=0, b="z"))
        let_by = 0
        self.of(value, whole)
        for place in places(value):
            for other in STRANGERS:
                changed = put_at(value, place, other)
                if is_plainly_of(changed, whole):
                    let_by += 1
                    self.of(changed, whole)
                else:
                    self.not_of(changed, whole)
        self.assertGreater(let_by, 5)

    def test_strangers_by_themselves(self):
        for kind in SORTS:
            for other in STRANGERS:
                self.not_of(other, kind)

    def test_deep_tuples(self):
        value = ()
        for level in range(20000):
            value = ("list", (value,))
        kind = NUMBER
        for level in range(4):
            kind = ("list", kind, 8)
        self.assertIs(is_of(value, kind), False)
        with self.assertRaises(BadValue):
            made_value(value, kind)


class LeastTest(unittest.TestCase):
    def test_numbers(self):
        for low, high, least in ((-3, 7, 0), (0, 9, 0), (-9, 0, 0), (0, 0, 0), (4, 9, 4), (4, 4, 4), (-9, -4, -4),
                                 (-4, -4, -4), (1, TOP, 1), (-TOP, -1, -1), (TOP, TOP, TOP), (-TOP, TOP, 0)):
            with self.subTest(low=low, high=high):
                self.assertEqual(least_value(("number", low, high)), least)

    def test_every_other_sort(self):
        for kind, least in ((TEXT, ""), (("text", 0), ""), (CHOICE, "red"), (("choice", ("z", "a")), "z"),
                            (LIST, items()), (ROWS, rows()), (RECORD, rec(a=0, b="")), (("record", ()), ("record", ())),
                            (("list", RECORD, 8), items())):
            with self.subTest(kind=kind):
                self.assertEqual(least_value(kind), least)

    def test_records_within_records(self):
        kind = ("record", (("a", RECORD), ("b", LIST), ("c", CHOICE), ("d", ROWS), ("e", ("number", 5, 6)),
                           ("f", ("record", (("x", ("number", -6, -5)),)))))
        self.assertEqual(least_value(kind), rec(a=rec(a=0, b=""), b=items(), c="red", d=rows(), e=5, f=rec(x=-5)))

    def test_the_least_is_of_its_kind(self):
        for kind in SORTS + (("number", 3, 4), ("number", -4, -3), ("text", 0), ("list", TEXT, 0),
                             ("rows", "a", RECORD, 0), ("record", ()), ("record", (("x", ROWS), ("y", CHOICE)))):
            with self.subTest(kind=kind):
                self.assertIs(is_of(least_value(kind), kind), True)
                self.assertEqual(least_value(kind), least_value(kind))


class FieldsTest(unittest.TestCase):
    def setUp(self):
        self.record = rec(b="x", d=items(1), f=rec(b=3), h=7)

    def test_field_of(self):
        self.assertEqual(field_of(self.record, "b"), "x")
        self.assertEqual(field_of(self.record, "d"), items(1))
        self.assertEqual(field_of(self.record, "f"), rec(b=3))
        self.assertEqual(field_of(self.record, "h"), 7)

    def test_with_fields_that_are_there(self):
        self.assertEqual(with_fields(self.record, ["b"], ["y"]), rec(b="y", d=items(1), f=rec(b=3), h=7))
        self.assertEqual(with_fields(self.record, ["h", "b"], [0, ""]), rec(b="", d=items(1), f=rec(b=3), h=0))
        self.assertEqual(with_fields(self.record, ["b", "h"], ["", 0]), rec(b="", d=items(1), f=rec(b=3), h=0))

    def test_with_fields_that_are_not_there(self):
        for name in ("a", "c", "e", "g", "i", "bb", "z"):
            told = with_fields(self.record, [name], [5])
            self.assertEqual(told, rec(b="x", d=items(1), f=rec(b=3), h=7, **{name: 5}))
            self.assertEqual([pair[0] for pair in told[1]], sorted([pair[0] for pair in told[1]]))
        self.assertEqual(with_fields(("record", ()), ["b", "a"], [1, 2]), ("record", (("a", 2), ("b", 1))))

    def test_with_several_in_any_order(self):
        for names, values in ((["z", "b", "a", "e"], [1, 2, 3, 4]), (["e", "a", "b", "z"], [4, 3, 2, 1]),
                              (("a", "b", "e", "z"), (3, 2, 4, 1))):
            self.assertEqual(with_fields(self.record, names, values),
                             ("record", (("a", 3), ("b", 2), ("d", items(1)), ("e", 4), ("f", rec(b=3)), ("h", 7),
                                         ("z", 1))))

    def test_with_values_of_other_sorts(self):
        self.assertEqual(with_fields(self.record, ["b", "c"], [rows(), rec(z=1)]),
                         rec(b=rows(), c=rec(z=1), d=items(1), f=rec(b=3), h=7))

    def test_with_no_fields(self):
        self.assertEqual(with_fields(self.record, [], []), self.record)
        self.assertEqual(with_fields(self.record, (), ()), self.record)
        self.assertEqual(without_fields(self.record, []), self.record)
        self.assertEqual(without_fields(self.record, ()), self.record)

    def test_without_fields(self):
        self.assertEqual(without_fields(self.record, ["b"]), rec(d=items(1), f=rec(b=3), h=7))
        self.assertEqual(without_fields(self.record, ["h", "d"]), rec(b="x", f=rec(b=3)))
        self.assertEqual(without_fields(self.record, ("d", "h")), rec(b="x", f=rec(b=3)))
        self.assertEqual(without_fields(self.record, ["f", "h", "b", "d"]), ("record", ()))

    def test_without_fields_that_are_not_there(self):
        self.assertEqual(without_fields(self.record, ["a"]), self.record)
        self.assertEqual(without_fields(self.record, ["z", "b", "bb"]), rec(d=items(1), f=rec(b=3), h=7))
        self.assertEqual(without_fields(("record", ()), ["a"]), ("record", ()))

    def test_nothing_handed_in_is_changed(self):
        names, values, before = ["z", "b"], [1, 2], repr(self.record)
        first = with_fields(self.record, names, values)
        second = without_fields(self.record, names)
        self.assertEqual((names, values, repr(self.record)), (["z", "b"], [1, 2], before))
        self.assertEqual(with_fields(self.record, names, values), first)
        self.assertEqual(without_fields(self.record, names), second)
        names.clear()
        values.clear()
        self.assertEqual(first, rec(b=2, d=items(1), f=rec(b=3), h=7, z=1))
        self.assertEqual(second, rec(d=items(1), f=rec(b=3), h=7))

    def test_what_is_told_is_made_of_tuples(self):
        for told in (with_fields(self.record, ["a"], [1]), without_fields(self.record, ["b"]), least_value(RECORD)):
            self.assertIsInstance(told, tuple)
            self.assertIsInstance(told[1], tuple)
            for pair in told[1]:
                self.assertIsInstance(pair, tuple)


if __name__ == "__main__":
    unittest.main()
