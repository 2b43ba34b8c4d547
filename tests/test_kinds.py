"""Names and kinds: [1.1]."""

import unittest

from oldhands.errors import BadKind
from oldhands.kinds import field_kind, is_name, kind_depth, kind_many, made_kind

TOP = 10 ** 30
NUMBER = ("number", 0, 9)
TEXT = ("text", 5)
CHOICE = ("choice", ("red", "blue"))
LIST = ("list", NUMBER, 3)
RECORD = ("record", (("a", NUMBER), ("b", TEXT)))
ROWS = ("rows", "a", RECORD, 4)
SORTS = (NUMBER, TEXT, CHOICE, LIST, RECORD, ROWS)

# One thing of each form that may stand in another one's place.
STRANGERS = (0, -1, 5, "", "a", "number", (), (0,), ("a",), ((),), NUMBER, CHOICE)


def record(*fields):
    return ("record", tuple(fields))


def letters(count, kind=NUMBER):
    """A record kind of so many fields of one kind."""
    return record(*[("abcdefghijkl"[at], kind) for at in range(count)])


def deep(depth, inner=NUMBER):
    """A kind of lists of so many kinds one in another."""
    for level in range(depth - 1):
        inner = ("list", inner, 1)
    return inner


def places(thing, above=()):
    """The indexes that lead to each thing within a tuple, itself among them."""
    found = [above]
    if isinstance(thing, tuple):
        for at, inner in enumerate(thing):
            found.extend(places(inner, above + (at,)))
    return found


def put_at(thing, place, other):
    if not place:
        return other
    at = place[0]
    return thing[:at] + (put_at(thing[at], place[1:], other),) + thing[at + 1:]


def around(kind):
    """The kind by itself, and deep within each sort that holds others."""
    return (
        kind,
        ("list", kind, 2),
        record(("a", NUMBER), ("b", kind)),
        ("rows", "a", record(("a", NUMBER), ("b", kind)), 2),
        ("list", record(("x", ("list", kind, 0))), 8),
    )


class NameTest(unittest.TestCase):
    def test_names(self):
        for text in ("a", "z", "m", "ab", "abcdefg", "abcdefgh", "zzzzzzzz", "eac", "eachs", "aeach", "eech", "ache",
                     "number", "text", "list", "record", "rows", "choice", "none"):
            with self.subTest(text=text):
                self.assertIs(is_name(text), True)

    def test_every_letter(self):
        for letter in "abcdefghijklmnopqrstuvwxyz":
            self.assertIs(is_name(letter), True)
            self.assertIs(is_name("ab" + letter), True)

    def test_each_is_no_name(self):
        self.assertIs(is_name("each"), False)

    def test_too_short_and_too_long(self):
        for text in ("", "abcdefghi", "a" * 9, "a" * 100):
            with self.subTest(text=text):
                self.assertIs(is_name(text), False)

    def test_another_sign_at_each_place(self):
        others = [chr(code) for code in range(32, 127) if not "a" <= chr(code) <= "z"] + ["\n"]
        self.assertIn("`", others)
        self.assertIn("{", others)
        for other in others:
            self.assertIs(is_name(other), False, other)
            for word in ("abcdefgh", "abc", "ab"):
                for at in range(len(word)):
                    text = word[:at] + other + word[at + 1:]
                    self.assertIs(is_name(text), False, text)

    def test_a_line_feed_behind_a_name(self):
        self.assertIs(is_name("abc\n"), False)
        self.assertIs(is_name("each\n"), False)

    def test_capitals_and_figures(self):
        for text in ("A", "Each", "EACH", "aB", "a1", "1", "0", "a_b", "a b", " a", "a "):
            with self.subTest(text=text):
                self.assertIs(is_name(text), False)


class MadeKindTest(unittest.TestCase):
    def let_by(self, kind):
        with self.subTest(kind=kind):
            before = repr(kind)
            self.assertIs(made_kind(kind), kind)
            self.assertIs(made_kind(kind), kind)
            self.assertEqual(repr(kind), before)

    def refused(self, kind):
        with self.subTest(kind=kind):
            for again in range(2):
                with self.assertRaises(BadKind):
                    made_kind(kind)

    def refused_all_over(self, kind):
        for whole in around(kind):
            self.refused(whole)

    def test_each_sort(self):
        for kind in SORTS:
            for whole in around(kind):
                if kind_depth(whole) <= 5:
                    self.let_by(whole)

    def test_number_bounds(self):
        for low, high in ((0, 0), (-TOP, TOP), (-TOP, -TOP), (TOP, TOP), (3, 4), (-4, -3), (4, 4), (-1, 1)):
            self.let_by(("number", low, high))
        for low, high in ((-TOP - 1, 0), (0, TOP + 1), (-TOP - 1, TOP), (-TOP, TOP + 1), (TOP + 1, TOP + 1),
                          (-TOP - 1, -TOP - 1), (1, 0), (0, -1), (TOP, -TOP), (TOP, TOP - 1), (10 ** 59, 0),
                          (-10 ** 59, 10 ** 59)):
            self.refused_all_over(("number", low, high))

    def test_text_most(self):
        for most in (0, 1, 59, 60):
            self.let_by(("text", most))
        for most in (61, 62, -1, -60, 10 ** 59, -10 ** 59):
            self.refused_all_over(("text", most))

    def test_list_most(self):
        for most in (0, 1, 7, 8):
            self.let_by(("list", TEXT, most))
        for most in (9, 10, -1, -8, 60, 10 ** 59):
            self.refused(("list", TEXT, most))
            self.refused(("list", ("list", TEXT, most), 8))

    def test_rows_most(self):
        for most in (0, 1, 7, 8):
            self.let_by(("rows", "a", RECORD, most))
        for most in (9, 10, -1, -8, 60, 10 ** 59):
            self.refused(("rows", "a", RECORD, most))
            self.refused(("list", ("rows", "a", RECORD, most), 8))

    def test_choice_words(self):
        words = ("a", "bb", "ccc", "d", "e", "f", "g", "abcdefgh", "i")
        self.let_by(("choice", words[:1]))
        self.let_by(("choice", words[:8]))
        self.let_by(("choice", ("b", "a")))
        self.refused_all_over(("choice", words))
        self.refused_all_over(("choice", ()))
        for bad in ("", "each", "A", "a1", "abcdefghi", "a b", 0, 7, (), ("a",), ("a", "b")):
            for at in range(3):
                self.refused_all_over(("choice", ("x", "y")[:at] + (bad,) + ("x", "y")[at:]))
        for words in (("a", "a"), ("a", "b", "a"), ("b", "a", "a"), ("a",) * 9):
            self.refused_all_over(("choice", words))

    def test_record_counts(self):
        self.let_by(record())
        self.let_by(letters(1))
        self.let_by(letters(8))
        self.refused_all_over(letters(9))
        self.refused_all_over(letters(10))

    def test_record_fields_ascend(self):
        self.let_by(record(("a", NUMBER), ("aa", TEXT), ("ab", CHOICE), ("b", NUMBER)))
        for names in (("b", "a"), ("a", "a"), ("a", "c", "b"), ("aa", "a"), ("a", "b", "b"), ("a", "b", "a"),
                      ("b", "b", "c")):
            self.refused_all_over(record(*[(name, NUMBER) for name in names]))
            self.refused(record(*[(name, TEXT if at else NUMBER) for at, name in enumerate(names)]))

    def test_record_names(self):
        for bad in ("", "each", "A", "z1", "abcdefghi", "a-b", "a\n", 0, (), ("a",)):
            self.refused_all_over(record((bad, NUMBER)))
            self.refused(record((bad, NUMBER), ("zz", TEXT)))
            self.refused(record(("a", NUMBER), (bad, TEXT)))

    def test_record_fields_are_pairs(self):
        for bad in ((), ("a",), ("a", NUMBER, NUMBER), "a", "ab", 0, ("a", 0), ("a", "number"), (NUMBER, "a"),
                    ("a", ()), ("a", (NUMBER,)), ("a", ("number", 0))):
            self.refused_all_over(record(bad))
            self.refused(record(bad, ("z", NUMBER)))
            self.refused(record(("a", NUMBER), bad))

    def test_rows_keys(self):
        self.let_by(("rows", "b", RECORD, 4))
        self.let_by(("rows", "k", record(("k", ("text", 0))), 4))
        for key in ("c", "", "each", "A", "ab", 0, 1, (), ("a",), NUMBER):
            self.refused(("rows", key, RECORD, 4))
            self.refused(("list", ("rows", key, RECORD, 4), 1))
        self.refused(("rows", "a", record(), 4))
        self.refused(("rows", "each", record(("each", NUMBER)), 4))

    def test_rows_key_kinds(self):
        for kind in (CHOICE, LIST, RECORD, record(), ROWS):
            self.let_by(("rows", "a", record(("a", NUMBER), ("b", kind)), 4))
            self.refused(("rows", "b", record(("a", NUMBER), ("b", kind)), 4))
            self.refused(record(("x", ("rows", "b", record(("a", NUMBER), ("b", kind)), 4))))

    def test_rows_of_no_record_kind(self):
        for kind in (NUMBER, TEXT, CHOICE, LIST, ROWS, ("list", RECORD, 1)):
            self.refused(("rows", "a", kind, 4))
            self.refused(("list", ("rows", "a", kind, 4), 1))

    def test_depth(self):
        for depth in range(1, 6):
            self.let_by(deep(depth))
        for depth in (6, 7, 8, 40, 400, 20000):
            with self.subTest(depth=depth):
                with self.assertRaises(BadKind):
                    made_kind(deep(depth))
        for inner in (NUMBER, TEXT, CHOICE, record()):
            self.let_by(deep(5, inner))
            self.refused(deep(6, inner))

    def test_depth_counts_every_sort(self):
        nested = record(("r", ("rows", "k", record(("k", TEXT), ("z", ("list", NUMBER, 0))), 0)))
        self.assertEqual(kind_depth(nested), 5)
        self.let_by(nested)
        self.refused(("list", nested, 1))
        self.refused(record(("a", NUMBER), ("b", nested)))
        self.refused(("rows", "a", record(("a", NUMBER), ("b", deep(4))), 1))
        self.let_by(("rows", "a", record(("a", NUMBER), ("b", deep(3))), 1))
        self.refused(record(("a", deep(5)), ("b", NUMBER)))
        self.refused(record(("a", NUMBER), ("b", deep(5))))
        self.let_by(record(("a", NUMBER), ("b", deep(4))))

    def test_how_many(self):
        # 1 + 4 * 9 is 37; three more fields make 40.
        full = record(*[(name, letters(8)) for name in "abcd"], *[(name, NUMBER) for name in "efg"])
        self.assertEqual(kind_many(full), 40)
        self.let_by(full)
        more = record(*[(name, letters(8)) for name in "abcd"], *[(name, NUMBER) for name in "efgh"])
        self.assertEqual(kind_many(more), 41)
        self.refused(more)
        self.refused(("list", full, 1))
        self.refused(("list", more, 1))
        self.refused(record(("a", full)))
        self.refused(letters(8, letters(8)))
        self.refused(letters(8, letters(8, letters(8, letters(8)))))

    def test_how_many_in_lists_and_rows(self):
        # 1 + 7 * 4 is 29, and 11 more for the last field.
        items = record(("a", NUMBER), ("b", TEXT))
        seven = [(name, ("rows", "a", items, 1)) for name in "abcdefg"]
        last = ("h", ("list", ("list", letters(8), 1), 1))
        self.let_by(record(*seven, last))
        self.refused(record(*seven[:6], ("g", ("list", seven[6][1], 1)), last))
        rows = ("list", ("rows", "a", letters(8), 1), 1)
        self.let_by(record(*seven, ("h", rows)))
        # 1 + 6 * 4 + 4 + 11 is 40, one field more is 41.
        self.let_by(record(*seven[:6], ("g", letters(3)), ("h", rows)))
        self.refused(record(*seven[:6], ("g", letters(4)), ("h", rows)))

    def test_the_empty_tuple_and_other_words(self):
        for bad in ((), ("",), ("numbers", 0, 1), ("Number", 0, 1), ("texts", 3), ("bool",), ("each", NUMBER, 1),
                    ("set", NUMBER, 3), (0, 0, 1), (("number",), 0, 1), ((), 0, 1), (("number", 0, 1),), ("none",),
                    ("out",), ("bounds", 0, 1)):
            self.refused_all_over(bad)

    def test_another_count_of_parts(self):
        for kind in SORTS:
            for count in range(len(kind)):
                self.refused_all_over(kind[:count])
            for more in (0, "a", (), NUMBER):
                self.refused_all_over(kind + (more,))
                self.refused_all_over(kind[:1] + (more,) + kind[1:])

    def test_sorts_in_one_anothers_words(self):
        # Of unlike sorts none stays a kind with another one's word.
        for kind in SORTS:
            for other in SORTS:
                if kind != other:
                    self.refused_all_over((other[0],) + kind[1:])

    def test_strangers_in_every_place(self):
        allowed = 0
        for kind in SORTS + (record(("a", NUMBER), ("b", ("list", CHOICE, 2)), ("c", ROWS)), deep(4, CHOICE)):
            for place in places(kind)[1:]:
                for other in STRANGERS:
                    changed = put_at(kind, place, other)
                    if self.is_plainly_kind(changed):
                        allowed += 1
                        self.let_by(changed)
                    else:
                        self.refused(changed)
        self.assertGreater(allowed, 40)

    def is_plainly_kind(self, kind):
        """The document's words for a kind once more, as one question."""
        match kind:
            case ("number", int(low), int(high)):
                return low <= high
            case ("text", int(most)):
                return 0 <= most <= 60
            case ("choice", tuple(words)):
                return 1 <= len(words) <= 8 and all(map(is_str_name, words)) and len(set(words)) == len(words)
            case ("list", tuple(inner), int(most)):
                return 0 <= most <= 8 and self.is_plainly_kind(inner)
            case ("record", tuple(fields)):
                if not all(isinstance(f, tuple) and len(f) == 2 and is_str_name(f[0]) for f in fields):
                    return False
                names = [f[0] for f in fields]
                return names == sorted(set(names)) and all(self.is_plainly_kind(f[1]) for f in fields)
            case ("rows", str(key), ("record", tuple(fields)) as inner, int(most)):
                if not self.is_plainly_kind(inner) or not 0 <= most <= 8:
                    return False
                return dict(fields).get(key, ("none",))[0] in ("number", "text")
        return False


def is_str_name(name):
    return isinstance(name, str) and is_name(name)


class PartsOfKindsTest(unittest.TestCase):
    def test_kind_many(self):
        for kind, many in ((NUMBER, 1), (TEXT, 1), (CHOICE, 1), (LIST, 2), (record(), 1), (RECORD, 3), (ROWS, 4),
                           (("list", ROWS, 1), 5), (deep(5), 5), (deep(7), 7), (letters(8, RECORD), 25),
                           (record(("a", LIST), ("b", ROWS), ("c", record())), 8)):
            with self.subTest(kind=kind):
                self.assertEqual(kind_many(kind), many)

    def test_kind_depth(self):
        for kind, depth in ((NUMBER, 1), (TEXT, 1), (CHOICE, 1), (LIST, 2), (record(), 1), (RECORD, 2), (ROWS, 3),
                            (("list", ROWS, 1), 4), (deep(5), 5), (deep(7), 7), (letters(8, RECORD), 3),
                            (record(("a", LIST), ("b", ROWS), ("c", record())), 4),
                            (record(("a", ROWS), ("b", NUMBER)), 4)):
            with self.subTest(kind=kind):
                self.assertEqual(kind_depth(kind), depth)

    def test_field_kind(self):
        kind = record(("a", NUMBER), ("b", TEXT), ("bb", LIST), ("c", RECORD))
        self.assertEqual(field_kind(kind, "a"), NUMBER)
        self.assertEqual(field_kind(kind, "b"), TEXT)
        self.assertEqual(field_kind(kind, "bb"), LIST)
        self.assertEqual(field_kind(kind, "c"), RECORD)

    def test_field_kind_of_no_field(self):
        for name in ("d", "aa", "ab", "", "each", "A"):
            self.assertIsNone(field_kind(RECORD, name))
        self.assertIsNone(field_kind(record(), "a"))
        # What lies deeper is no field of this one.
        self.assertIsNone(field_kind(record(("x", RECORD)), "a"))


if __name__ == "__main__":
    unittest.main()
