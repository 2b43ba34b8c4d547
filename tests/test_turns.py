"""Turns of a value: [3.1], [3.2], [3.3]."""

import unittest

from oldhands.errors import BadKind, BadTurn
from oldhands.kinds import made_kind
from oldhands.turns import figures_of, kind_behind, number_of, turn_about, turned, twin_of
from oldhands.values import is_of, least_value
from samples import all_values, deep, items, letters, places, put_at, rec, record, rows

TOP = 10 ** 30
NUMBER = ("number", -12, 30)
TEXT = ("text", 3)
CHOICE = ("choice", ("red", "pink", "blue"))
LIST = ("list", NUMBER, 2)
RECORD = record(a=("number", 0, 1), b=("text", 1))
ROWS = ("rows", "a", RECORD, 2)
SORTS = (NUMBER, TEXT, CHOICE, LIST, RECORD, ROWS)

WORDS = ("words", ("warm", "warm", "cold"), (("cold", "blue"), ("warm", "pink")))

# Turns and the kinds behind them, of these elder kinds.
GOOD = (
    (("bounds", 0, 9), NUMBER, ("number", 0, 9)),
    (("bounds", -99, 99), NUMBER, ("number", -99, 99)),
    (("bounds", 31, 40), NUMBER, ("number", 31, 40)),
    (("bounds", -20, -13), NUMBER, ("number", -20, -13)),
    (("bounds", 5, 5), NUMBER, ("number", 5, 5)),
    (("bounds", -TOP, TOP), NUMBER, ("number", -TOP, TOP)),
    (("scale", 2), NUMBER, ("number", -24, 60)),
    (("scale", 1000), NUMBER, ("number", -12000, 30000)),
    (("shrink", 2), NUMBER, ("number", -6, 15)),
    (("shrink", 3), NUMBER, ("number", -4, 10)),
    (("shrink", 6), NUMBER, ("number", -2, 5)),
    (("shrink", 1000), ("number", -1000, 3000), ("number", -1, 3)),
    (("figures", 3), NUMBER, ("text", 3)),
    (("figures", 60), NUMBER, ("text", 60)),
    (("figures", 1), ("number", 0, 9), ("text", 1)),
    (("number", -9, 9), TEXT, ("number", -9, 9)),
    (("number", 5, 99), TEXT, ("number", 5, 99)),
    (("number", -99, 999), TEXT, ("number", -99, 999)),
    (("number", -99, -7), TEXT, ("number", -99, -7)),
    (("number", 0, 0), ("text", 1), ("number", 0, 0)),
    (WORDS, CHOICE, ("choice", ("cold", "warm"))),
    (("words", ("a", "b", "c"), (("c", "blue"), ("a", "red"), ("b", "pink"))), CHOICE, ("choice", ("c", "a", "b"))),
    (("words", ("x", "x", "x"), (("x", "pink"),)), CHOICE, ("choice", ("x",))),
    (("words", ("a", "a", "b"), (("a", "red"), ("b", "blue"), ("z", "red"))), CHOICE, ("choice", ("a", "b", "z"))),
    (("words", ("red", "pink", "blue"), (("red", "red"), ("pink", "pink"), ("blue", "blue"))), CHOICE, CHOICE),
    (("cut", 0), TEXT, ("text", 0)),
    (("cut", 2), TEXT, ("text", 2)),
    (("cut", 3), TEXT, ("text", 3)),
    (("cut", 60), TEXT, ("text", 60)),
    (("first", 0), LIST, ("list", NUMBER, 0)),
    (("first", 1), LIST, ("list", NUMBER, 1)),
    (("first", 8), LIST, ("list", NUMBER, 8)),
    (("first", 0), ROWS, ("rows", "a", RECORD, 0)),
    (("first", 1), ROWS, ("rows", "a", RECORD, 1)),
    (("first", 2), ROWS, ROWS),
    (("first", 8), ROWS, ("rows", "a", RECORD, 8)),
    (("one", 1), NUMBER, ("list", NUMBER, 1)),
    (("one", 8), TEXT, ("list", TEXT, 8)),
    (("one", 2), CHOICE, ("list", CHOICE, 2)),
    (("one", 2), LIST, ("list", LIST, 2)),
    (("one", 2), RECORD, ("list", RECORD, 2)),
    (("one", 2), ROWS, ("list", ROWS, 2)),
    (("one", 3), deep(4), ("list", deep(4), 3)),
    (("out",), LIST, NUMBER),
    (("out",), ("list", ROWS, 1), ROWS),
    (("out",), ("list", ("number", 4, 6), 2), ("number", 4, 6)),
    (("items", ("scale", 2)), LIST, ("list", ("number", -24, 60), 2)),
    (("items", ("cut", 1)), ("list", TEXT, 2), ("list", ("text", 1), 2)),
    (("items", ("number", 0, 9)), ("list", TEXT, 2), ("list", ("number", 0, 9), 2)),
    (("items", ("one", 2)), ("list", CHOICE, 0), ("list", ("list", CHOICE, 2), 0)),
    (("items", ("out",)), ("list", ("list", CHOICE, 2), 2), ("list", CHOICE, 2)),
    (("items", ("items", WORDS)), ("list", ("list", CHOICE, 2), 2),
     ("list", ("list", ("choice", ("cold", "warm")), 2), 2)),
    (("items", ("items", ("items", ("bounds", 0, 1)))), ("list", ("list", ("list", ("number", 0, 3), 1), 1), 2),
     ("list", ("list", ("list", ("number", 0, 1), 1), 1), 2)),
    (("items", ("first", 1)), ("list", ROWS, 1), ("list", ("rows", "a", RECORD, 1), 1)),
)


def some_values(kind):
    """Values of a kind, all of them where they are few."""
    if kind[0] == "number" and kind[2] - kind[1] > 2000:
        near = (kind[1], kind[1] + 1, -1000, -999, -7, -1, 0, 1, 7, 999, 1000, kind[2] - 1, kind[2])
        return [number for number in near if kind[1] <= number <= kind[2]]
    if kind[0] == "text" and kind[1] > 3:
        return all_values(("text", 3), "0-7") + ["7" * kind[1], "-" + "1" * (kind[1] - 1), "a" * kind[1]]
    if kind[0] == "list":
        inner = some_values(kind[1])
        some = [items()] + [items(one) for one in inner] + [items(*inner[-kind[2]:])]
        some.extend([items(*inner[at:at + 2]) for at in range(len(inner) - 1)])
        return [one for one in some if is_of(one, kind)]
    return [one for one in all_values(kind, "0-7") if is_of(one, kind)]


class FiguresTest(unittest.TestCase):
    def test_figures_of(self):
        for number, text in ((0, "0"), (7, "7"), (10, "10"), (-1, "-1"), (-10, "-10"), (1203, "1203"),
                             (10 ** 59, "1" + "0" * 59), (-10 ** 59, "-1" + "0" * 59), (10 ** 60 - 1, "9" * 60),
                             (1 - 10 ** 60, "-" + "9" * 60)):
            with self.subTest(number=number):
                self.assertEqual(figures_of(number), text)
                self.assertEqual(number_of(text), number)

    def test_there_and_back(self):
        for number in range(-1200, 1201):
            self.assertEqual(number_of(figures_of(number)), number)
        for count in range(1, 61):
            for figure in "19":
                number = int(figure * count)
                self.assertEqual(figures_of(number), figure * count)
                self.assertEqual(figures_of(-number), "-" + figure * count)
                self.assertEqual(number_of(figure * count), number)
                self.assertEqual(number_of("-" + figure * count), -number)

    def test_no_number(self):
        for text in ("", "-", "--", "-0", "00", "01", "007", "-01", "-00", "--1", "1-", "-1-", "1-1", " 1", "1 ", "1 1",
                     " ", "- 1", "+1", "+0", "1.0", "1e3", "0x1", "a", "1a", "a1", "1_0", "1,0", "/", ":", "1/", "1:",
                     "\n", "1\n", "\n1", '"', '"1"', "0" * 60, "-" * 60, "0" + "1" * 59):
            with self.subTest(text=text):
                self.assertIsNone(number_of(text))

    def test_every_sign_that_is_no_figure(self):
        for code in [10] + list(range(32, 127)):
            sign = chr(code)
            if sign not in "0123456789":
                for text in (sign, "1" + sign, "1" + sign + "1", "0" + sign) + ((sign + "1",) if sign != "-" else ()):
                    self.assertIsNone(number_of(text), text)


class GoodTurnsTest(unittest.TestCase):
    def test_kind_behind(self):
        for turn, kind, behind in GOOD:
            with self.subTest(turn=turn, kind=kind):
                before = repr((turn, kind))
                self.assertEqual(kind_behind(turn, kind), behind)
                self.assertEqual(made_kind(kind_behind(turn, kind)), behind)
                self.assertEqual(repr((turn, kind)), before)

    def test_values_turned_are_of_the_kind_behind(self):
        for turn, kind, behind in GOOD:
            some = some_values(kind)
            self.assertTrue(some)
            for value in some:
                with self.subTest(turn=turn, value=value):
                    self.assertIs(is_of(turned(turn, kind, value), behind), True)
                    self.assertEqual(turned(turn, kind, value), turned(turn, kind, value))

    def test_the_turn_about_leads_back(self):
        for turn, kind, behind in GOOD:
            with self.subTest(turn=turn, kind=kind):
                about = turn_about(turn, kind)
                self.assertIsInstance(about, tuple)
                self.assertEqual(kind_behind(about, behind), kind)
                self.assertEqual(turn_about(about, behind), turn)

    def test_there_back_and_there(self):
        for turn, kind, behind in GOOD:
            about = turn_about(turn, kind)
            for value in some_values(kind):
                with self.subTest(turn=turn, value=value):
                    there = turned(turn, kind, value)
                    twin = turned(about, behind, there)
                    self.assertEqual(turned(turn, kind, twin), there)
                    self.assertEqual(twin_of(turn, kind, value), twin)
                    self.assertIs(is_of(twin, kind), True)
                    self.assertEqual(twin_of(turn, kind, twin), twin)

    def test_back_there_and_back(self):
        for turn, kind, behind in GOOD:
            about = turn_about(turn, kind)
            for value in some_values(behind):
                with self.subTest(turn=turn, value=value):
                    back = turned(about, behind, value)
                    self.assertEqual(turned(about, behind, turned(turn, kind, back)), back)
                    self.assertEqual(twin_of(about, behind, value), turned(turn, kind, back))


class TurnedTest(unittest.TestCase):
    def told(self, turn, kind, pairs):
        for value, expected in pairs:
            with self.subTest(turn=turn, kind=kind, value=value):
                self.assertEqual(turned(turn, kind, value), expected)

    def test_bounds(self):
        self.told(("bounds", 0, 9), NUMBER, ((-12, 0), (-1, 0), (0, 0), (5, 5), (9, 9), (10, 9), (30, 9)))
        self.told(("bounds", -20, -13), NUMBER, ((-12, -13), (0, -13), (30, -13)))
        self.told(("bounds", 31, 40), NUMBER, ((-12, 31), (30, 31)))
        self.told(("bounds", -99, 99), NUMBER, ((-12, -12), (0, 0), (30, 30)))

    def test_scale(self):
        self.told(("scale", 2), NUMBER, ((-12, -24), (-1, -2), (0, 0), (7, 14), (30, 60)))
        self.told(("scale", 1000), NUMBER, ((-12, -12000), (-1, -1000), (0, 0), (30, 30000)))
        self.assertEqual(kind_behind(("scale", 10), ("number", -TOP // 10, TOP // 10)), ("number", -TOP, TOP))
        self.told(("scale", 10), ("number", -TOP // 10, TOP // 10), ((TOP // 10, TOP), (-TOP // 10, -TOP)))

    def test_shrink(self):
        self.told(("shrink", 2), NUMBER, ((-12, -6), (-11, -6), (-10, -5), (-2, -1), (-1, -1), (0, 0), (1, 0), (2, 1),
                                          (29, 14), (30, 15)))
        self.told(("shrink", 1000), ("number", -1000, 3000), ((-1000, -1), (-999, -1), (-1, -1), (0, 0), (999, 0),
                                                              (1000, 1), (2999, 2), (3000, 3)))
        self.told(("shrink", 10), ("number", -TOP, TOP), ((TOP, TOP // 10), (-TOP, -TOP // 10), (-TOP + 1, -TOP // 10)))

    def test_figures(self):
        self.told(("figures", 3), NUMBER, ((-12, "-12"), (-1, "-1"), (0, "0"), (7, "7"), (30, "30")))
        self.told(("figures", 32), ("number", -TOP, TOP), ((TOP, "1" + "0" * 30), (-TOP, "-1" + "0" * 30)))

    def test_number(self):
        wide = ("text", 5)
        self.told(("number", -99, 500), wide, (
            ("0", 0), ("7", 7), ("500", 500), ("-99", -99), ("-1", -1),
            ("501", 0), ("-100", 0), ("99999", 0), ("-9999", 0), ("", 0), ("-", 0), ("-0", 0), ("00", 0), ("07", 0),
            ("-07", 0), (" 7", 0), ("7 ", 0), ("+7", 0), ("seven", 0), ("7a", 0), ("1-1", 0), ("--7", 0),
        ))
        # Beyond the bounds comes the least value, not the nearest number.
        self.told(("number", 5, 9), wide, (("5", 5), ("9", 9), ("4", 5), ("10", 5), ("", 5), ("09", 5), ("x", 5)))
        self.told(("number", -9, -5), wide, (("-5", -5), ("-9", -9), ("-10", -5), ("0", -5), ("-4", -5), ("-", -5)))
        self.told(("number", -TOP, TOP), ("text", 60), (("9" * 60, 0), (str(TOP), TOP), (str(-TOP), -TOP),
                                                        (str(TOP + 1), 0), (str(-TOP - 1), 0)))

    def test_words(self):
        self.told(WORDS, CHOICE, (("red", "warm"), ("pink", "warm"), ("blue", "cold")))
        about = turn_about(WORDS, CHOICE)
        self.assertEqual(about, ("words", ("blue", "pink"), (("red", "warm"), ("pink", "warm"), ("blue", "cold"))))
        self.told(about, ("choice", ("cold", "warm")), (("cold", "blue"), ("warm", "pink")))

    def test_cut(self):
        self.told(("cut", 2), TEXT, (("", ""), ("a", "a"), ("ab", "ab"), ("abc", "ab"), ("   ", "  ")))
        self.told(("cut", 0), TEXT, (("", ""), ("abc", "")))
        self.told(("cut", 3), TEXT, (("abc", "abc"), ("", "")))
        self.told(("cut", 60), TEXT, (("abc", "abc"), ("a", "a")))

    def test_first(self):
        for most, kept in ((0, 0), (1, 1), (2, 2), (3, 3), (4, 3), (8, 3)):
            self.told(("first", most), ("list", NUMBER, 3), ((items(7, 7, 5), items(*(7, 7, 5)[:kept])),
                                                             (items(), items()), (items(3), items(*(3,)[:kept]))))
        some = (rec(a=0, b="x"), rec(a=1, b=""))
        for most in (0, 1, 2, 8):
            self.told(("first", most), ROWS, ((rows(*some), rows(*some[:most])), (rows(), rows())))

    def test_one(self):
        for kind, value in ((NUMBER, 3), (TEXT, ""), (CHOICE, "red"), (LIST, items()), (LIST, items(1, 2)),
                            (RECORD, rec(a=0, b="")), (ROWS, rows())):
            for most in (1, 2, 8):
                self.told(("one", most), kind, ((value, items(value)),))

    def test_out(self):
        self.told(("out",), LIST, ((items(3), 3), (items(3, 4), 3), (items(4, 3), 4), (items(), 0)))
        self.told(("out",), ("list", ("number", 4, 6), 2), ((items(), 4), (items(6), 6)))
        self.told(("out",), ("list", CHOICE, 1), ((items(), "red"), (items("blue"), "blue")))
        self.told(("out",), ("list", RECORD, 1), ((items(), rec(a=0, b="")), (items(rec(a=1, b="x")), rec(a=1, b="x"))))
        self.told(("out",), ("list", LIST, 1), ((items(), items()), (items(items(1)), items(1))))

    def test_items(self):
        self.told(("items", ("scale", 2)), LIST,
                  ((items(), items()), (items(3), items(6)), (items(3, -4), items(6, -8))))
        self.told(("items", ("items", ("cut", 1))), ("list", ("list", TEXT, 2), 2), (
            (items(), items()), (items(items(), items("ab")), items(items(), items("a"))),
            (items(items("xy", "z"), items("", "abc")), items(items("x", "z"), items("", "a"))),
        ))
        self.told(("items", ("out",)), ("list", ("list", ("number", 3, 5), 2), 3), (
            (items(items(5, 4), items(), items(4)), items(5, 3, 4)),
        ))
        self.told(("items", ("one", 1)), ("list", TEXT, 2), ((items("a", "b"), items(items("a"), items("b"))),))


class TurnAboutTest(unittest.TestCase):
    def test_each_turn(self):
        for turn, kind, about in (
            (("bounds", 0, 9), NUMBER, ("bounds", -12, 30)), (("scale", 7), NUMBER, ("shrink", 7)),
            (("shrink", 6), NUMBER, ("scale", 6)), (("figures", 5), NUMBER, ("number", -12, 30)),
            (("number", -9, 9), TEXT, ("figures", 3)), (("cut", 1), TEXT, ("cut", 3)), (("cut", 9), TEXT, ("cut", 3)),
            (("first", 1), LIST, ("first", 2)), (("first", 5), ROWS, ("first", 2)), (("one", 5), ROWS, ("out",)),
            (("out",), LIST, ("one", 2)), (("out",), ("list", TEXT, 8), ("one", 8)),
            (("items", ("scale", 2)), LIST, ("items", ("shrink", 2))),
            (("items", ("items", ("cut", 1))), ("list", ("list", TEXT, 1), 2), ("items", ("items", ("cut", 3)))),
            (("items", ("one", 4)), LIST, ("items", ("out",))),
        ):
            with self.subTest(turn=turn, kind=kind):
                self.assertEqual(turn_about(turn, kind), about)

    def test_words_about(self):
        turn = ("words", ("b", "a", "a"), (("a", "blue"), ("c", "red"), ("b", "red")))
        self.assertEqual(turn_about(turn, CHOICE),
                         ("words", ("blue", "red", "red"), (("red", "b"), ("pink", "a"), ("blue", "a"))))

    def test_twins(self):
        for turn, kind, value, twin in (
            (("bounds", 0, 9), NUMBER, 20, 9), (("bounds", 0, 9), NUMBER, 9, 9), (("bounds", 0, 9), NUMBER, -5, 0),
            (("bounds", 40, 50), NUMBER, 3, 30), (("scale", 2), NUMBER, -11, -11), (("shrink", 2), NUMBER, -11, -12),
            (("shrink", 6), NUMBER, 29, 24), (("shrink", 6), NUMBER, 24, 24), (("figures", 3), NUMBER, -7, -7),
            (("number", 0, 9), TEXT, "7", "7"), (("number", 0, 9), TEXT, "07", "0"), (("number", 4, 9), TEXT, "", "4"),
            (WORDS, CHOICE, "red", "pink"), (WORDS, CHOICE, "pink", "pink"), (WORDS, CHOICE, "blue", "blue"),
            (("cut", 2), TEXT, "abc", "ab"), (("cut", 2), TEXT, "ab", "ab"),
            (("first", 1), LIST, items(5, 6), items(5)),
            (("first", 1), ROWS, rows(rec(a=0, b=""), rec(a=1, b="")), rows(rec(a=0, b=""))),
            (("one", 1), TEXT, "x", "x"), (("out",), LIST, items(5, 6), items(5)), (("out",), LIST, items(), items(0)),
            (("items", ("shrink", 2)), LIST, items(3, 4), items(2, 4)),
            (("items", ("out",)), ("list", LIST, 2), items(items(), items(1)), items(items(0), items(1))),
        ):
            with self.subTest(turn=turn, value=value):
                self.assertEqual(twin_of(turn, kind, value), twin)
                self.assertEqual(turned(turn, kind, twin), turned(turn, kind, value))


def plain_behind(turn, kind):
    """The document's words for turns once more: the kind behind, None where the turn is refused."""
    behind = plain_form(turn, kind)
    try:
        return None if behind is None else made_kind(behind)
    except BadKind:
        return None


def plain_form(turn, kind):
    match turn, kind:
        case ("bounds", low, high), ("number", _, _):
            return ("number", low, high)
        case ("scale", int(k)), ("number", low, high) if k in range(2, 1001):
            return ("number", low * k, high * k)
        case ("shrink", int(k)), ("number", low, high) if k in range(2, 1001):
            return ("number", low // k, high // k) if low // k * k == low and high // k * k == high else None
        case ("figures", int(most)), ("number", low, high):
            return ("text", most) if all(len(str(bound)) <= most for bound in (low, high)) else None
        case ("number", int(low), int(high)), ("text", most):
            return ("number", low, high) if all(len(str(bound)) <= most for bound in (low, high)) else None
        case ("words", tuple(forth), tuple(back)), ("choice", words):
            return plain_words(forth, back, words)
        case ("cut", most), ("text", _):
            return ("text", most)
        case ("first", most), ("list", inner, _):
            return ("list", inner, most)
        case ("first", most), ("rows", key, inner, _):
            return ("rows", key, inner, most)
        case ("one", int(most)), _:
            return ("list", kind, most) if most > 0 else None
        case ("out",), ("list", inner, most):
            return inner if most > 0 else None
        case ("items", inner), ("list", item, most):
            behind = plain_form(inner, item)
            return None if behind is None else ("list", behind, most)
    return None


def plain_words(forth, back, words):
    if not all(isinstance(pair, tuple) and len(pair) == 2 for pair in back):
        return None
    behind = tuple(pair[0] for pair in back)
    if len(forth) != len(words) or set(forth) - set(behind) or {pair[1] for pair in back} - set(words):
        return None
    there, again = dict(zip(words, forth)), dict(back)
    if any(there[again[there[word]]] != there[word] for word in words):
        return None
    if any(again[there[again[word]]] != again[word] for word in behind):
        return None
    return ("choice", behind)


# One thing of each form that may stand in another one's place.
STRANGERS = (0, -1, 1, 2, 5, 61, 1000, 1001, TOP + 1, "", "a", "red", "warm", "each", "bounds", "one", (), (0,),
             ("a",), ("out",), ("cut", 1), ("scale", 2), NUMBER, ("warm", "pink"), ("warm", "blue"), ("warm",))


class RefusedTest(unittest.TestCase):
    def refused(self, turn, kind):
        value = least_value(kind)
        with self.subTest(turn=turn, kind=kind):
            for again in range(2):
                with self.assertRaises(BadTurn):
                    kind_behind(turn, kind)
                with self.assertRaises(BadTurn):
                    turn_about(turn, kind)
                with self.assertRaises(BadTurn):
                    turned(turn, kind, value)
                with self.assertRaises(BadTurn):
                    twin_of(turn, kind, value)

    def refused_within_items(self, turn, kind):
        self.refused(turn, kind)
        self.refused(("items", turn), ("list", kind, 2))
        self.refused(("items", ("items", turn)), ("list", ("list", kind, 2), 0))

    def test_another_word(self):
        for turn in ((), ("",), ("bound", 0, 9), ("Bounds", 0, 9), ("cuts", 1), ("each",), ("item", ("cut", 1)), (0,),
                     (0, 1), ((),), (("out",),), (("cut", 1), 1), ("put", "a", TEXT, ""), ("turn", "a", ("cut", 1)),
                     ("text", 3), ("list", TEXT, 3), ("choice", ("a",)), ("ahead", "-"), ("rest", 3), ("out ",)):
            for kind in SORTS:
                self.refused_within_items(turn, kind)

    def test_another_count_of_parts(self):
        for turn, kind, behind in GOOD:
            for count in range(len(turn)):
                self.refused(turn[:count], kind)
            for more in (0, 1, "a", (), turn):
                self.refused(turn + (more,), kind)
                self.refused(turn[:1] + (more,) + turn[1:], kind)

    def test_a_kind_of_another_sort(self):
        for turn, elder, behind in GOOD:
            for kind in SORTS:
                if kind[0] != elder[0] and turn[0] not in ("one", "first"):
                    self.refused(turn, kind)
        for kind in (NUMBER, TEXT, CHOICE, RECORD):
            self.refused(("first", 1), kind)
        for kind in (NUMBER, TEXT, CHOICE, RECORD, ROWS):
            self.refused(("out",), kind)
            self.refused(("items", ("one", 1)), kind)
        self.refused(("items", ("cut", 1)), LIST)
        self.refused(("items", ("scale", 2)), ("list", LIST, 2))
        self.refused(("items", ("items", ("scale", 2))), LIST)

    def test_strangers_in_every_place(self):
        let_by = 0
        for turn, elder, behind in GOOD:
            for place in places(turn):
                for other in STRANGERS:
                    changed = put_at(turn, place, other)
                    if not isinstance(changed, tuple):
                        continue
                    expected = plain_behind(changed, elder)
                    if expected is None:
                        self.refused(changed, elder)
                    else:
                        let_by += 1
                        self.assertEqual(kind_behind(changed, elder), expected)
        self.assertGreater(let_by, 100)

    def test_true_is_no_number(self):
        self.refused(("one", True), TEXT)
        self.refused(("bounds", False, True), NUMBER)

    def test_factors(self):
        zero = ("number", 0, 0)
        for k in (1, 0, -1, -2, 1001, 1002, 10 ** 59, "2", (), (2,)):
            self.refused_within_items(("scale", k), zero)
            self.refused_within_items(("shrink", k), zero)
        for k in (2, 3, 999, 1000):
            self.assertEqual(kind_behind(("scale", k), zero), zero)
            self.assertEqual(kind_behind(("shrink", k), zero), zero)

    def test_bounds_that_are_none(self):
        for low, high in ((1, 0), (0, -1), (TOP, -TOP), (-TOP - 1, 0), (0, TOP + 1), (10 ** 59, 10 ** 59)):
            self.refused_within_items(("bounds", low, high), NUMBER)
            self.refused_within_items(("number", low, high), ("text", 60))

    def test_bounds_that_cant_be_divided(self):
        for low, high, k in ((-12, 30, 4), (-12, 30, 5), (-12, 30, 1000), (-11, 30, 2), (-12, 29, 2), (0, 1, 2),
                             (-1, 0, 2), (3, 4, 2), (0, 999, 1000), (0, 1001, 1000)):
            self.refused_within_items(("shrink", k), ("number", low, high))

    def test_products_beyond(self):
        for low, high, k in ((0, TOP, 2), (-TOP, 0, 2), (0, TOP // 10 + 1, 10), (-TOP // 10 - 1, 0, 10),
                             (0, TOP // 1000 + 1, 1000), (TOP, TOP, 1000), (-TOP, -TOP, 2)):
            self.refused_within_items(("scale", k), ("number", low, high))
        self.assertEqual(kind_behind(("scale", 10), ("number", 0, TOP // 10)), ("number", 0, TOP))
        self.assertEqual(kind_behind(("scale", 10), ("number", -TOP // 10, 0)), ("number", -TOP, 0))

    def test_more_figures_than_signs(self):
        for low, high, most in ((0, 10, 1), (-1, 0, 1), (-12, 30, 2), (-9, 100, 2), (-100, 9, 3), (0, 0, 0),
                                (-TOP, 0, 31), (0, TOP, 30), (-99, -9, 2)):
            self.refused_within_items(("figures", most), ("number", low, high))
            self.assertEqual(kind_behind(("figures", most + 1), ("number", low, high)), ("text", most + 1))
            self.refused_within_items(("number", low, high), ("text", most))
            self.assertEqual(kind_behind(("number", low, high), ("text", most + 1)), ("number", low, high))
        for most in (61, -1, 10 ** 59, "9", (), (9,)):
            self.refused_within_items(("figures", most), ("number", 0, 0))

    def test_words(self):
        for forth, back in (
            (("a", "a"), (("a", "red"),)), (("a", "a", "a", "a"), (("a", "red"),)), ((), (("a", "red"),)),
            (("a", "a", "b"), (("a", "red"),)), (("a", "a", 0), (("a", "red"),)), (("a", "a", ("a",)), (("a", "red"),)),
            (("a", "a", "a"), (("a", "green"),)), (("a", "a", "a"), (("a", 0),)), (("a", "a", "a"), (("a", ("red",)),)),
            (("a", "a", "a"), ()), (("a", "a", "a"), (("a", "red"), ("a", "red"))),
            (("a", "a", "a"), (("a", "red"), ("a", "pink"))), (("a", "a", "a"), (("a",),)),
            (("a", "a", "a"), (("a", "red", "red"),)), (("a", "a", "a"), ("ab",)), (("a", "a", "a"), ("a",)),
            (("a", "a", "a"), (0,)), (("a", "a", "a"), 0), (("a", "a", "a"), "a"), (("a", "a", "a"), ("a", "red")),
            ("aaa", (("a", "red"),)), (0, (("a", "red"),)), ("a", (("a", "red"),)),
            (("a", "a", "a"), (("a", "red"), ("each", "red"))), (("A", "A", "A"), (("A", "red"),)),
            (("", "", ""), (("", "red"),)), (("a", "a", "a"), (("a", "red"), (0, "red"))),
            (("a", "a", "a"), (("a", "red"), (("b",), "red"))), (("a", "a", "a"), (("a", "red"), ("abcdefghi", "red"))),
        ):
            self.refused_within_items(("words", forth, back), CHOICE)

    def test_words_that_dont_come_back(self):
        for forth, back in (
            # red to a, back to blue, there to b.
            (("a", "a", "b"), (("a", "blue"), ("b", "red"))),
            (("a", "b", "b"), (("a", "red"), ("b", "red"))),
            (("a", "a", "b"), (("a", "blue"), ("b", "blue"))),
            (("a", "b", "c"), (("a", "pink"), ("b", "blue"), ("c", "red"))),
            # c is led back to pink, there to b, back to blue.
            (("a", "b", "b"), (("a", "red"), ("b", "blue"), ("c", "pink"))),
            (("a", "a", "a"), (("a", "red"), ("b", "pink"))),
        ):
            self.refused_within_items(("words", forth, back), CHOICE)

    def test_all_words_of_small_choices(self):
        elder = ("choice", ("x", "y"))
        good = 0
        for forth in all_values(("list", ("choice", ("a", "b", "x")), 3)):
            for back in all_values(("list", record(f=("choice", ("a", "b")), s=("choice", ("x", "y", "a"))), 2)):
                pairs = tuple((dict(one[1])["f"], dict(one[1])["s"]) for one in back[1])
                turn = ("words", forth[1], pairs)
                expected = plain_behind(turn, elder)
                if expected is None:
                    with self.assertRaises(BadTurn):
                        kind_behind(turn, elder)
                else:
                    good += 1
                    self.assertEqual(kind_behind(turn, elder), expected)
        self.assertGreater(good, 8)

    def test_nine_words_behind(self):
        names = tuple("abcdefghi")
        back = tuple((name, "red") for name in names)
        self.assertEqual(kind_behind(("words", ("a", "a", "a"), back[:8]), CHOICE), ("choice", names[:8]))
        self.refused_within_items(("words", ("a", "a", "a"), back), CHOICE)

    def test_cut_and_first(self):
        for most in (-1, 61, 10 ** 59, "1", (), (1,)):
            self.refused_within_items(("cut", most), TEXT)
        for most in (-1, 9, 10 ** 59, "1", (), (1,)):
            self.refused_within_items(("first", most), LIST)
            self.refused(("first", most), ROWS)

    def test_one_and_out(self):
        for most in (0, -1, 9, 10 ** 59, "1", (), (1,)):
            self.refused_within_items(("one", most), TEXT)
        self.refused_within_items(("out",), ("list", TEXT, 0))
        self.assertEqual(kind_behind(("out",), ("list", TEXT, 1)), TEXT)

    def test_items_of_no_turn(self):
        for inner in (0, "", "out", "cut", (), ("cut",), ("items", 0), ("items", ())):
            self.refused(("items", inner), ("list", TEXT, 2))
            self.refused(("items", inner), ("list", ("list", TEXT, 1), 2))

    def test_too_deep_behind(self):
        self.assertEqual(kind_behind(("one", 1), deep(4)), deep(5))
        self.refused(("one", 1), deep(5))
        self.refused(("items", ("one", 1)), deep(5))
        self.refused(("items", ("items", ("items", ("items", ("one", 1))))), deep(5))
        self.assertEqual(kind_behind(("items", ("one", 1)), deep(4)), deep(5))

    def test_too_many_behind(self):
        full = record(**{name: letters(8) for name in "abcd"}, e=TEXT, f=TEXT)
        self.assertEqual(kind_behind(("one", 1), full), ("list", full, 1))
        more = record(**{name: letters(8) for name in "abcd"}, e=TEXT, f=TEXT, g=TEXT)
        self.assertEqual(made_kind(more), more)
        self.refused(("one", 1), more)

    def test_deep_tuples(self):
        turn = ("cut", 1)
        for level in range(20000):
            turn = ("items", turn)
        for kind in (deep(5), TEXT):
            for refuse in (kind_behind, turn_about):
                with self.assertRaises(BadTurn):
                    refuse(turn, kind)
        with self.assertRaises(BadTurn):
            kind_behind(("words", ("a", "a", turn), (("a", "red"),)), CHOICE)
        with self.assertRaises(BadTurn):
            kind_behind(("words", ("a", "a", "a"), (("a", turn), (turn, "red"))), CHOICE)
        with self.assertRaises(BadTurn):
            kind_behind(("bounds", turn, turn), NUMBER)


if __name__ == "__main__":
    unittest.main()
