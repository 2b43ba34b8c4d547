"""The office, its deeds and its history: [10.1] to [10.3], with [0.2], [0.4]."""

import itertools
import random
import string
import unittest

from oldhands.errors import BadKind, BadPath, BadPiece, BadTurn, BadValue, BadVersion, Full, NoDeed, NoRecord
from oldhands.office import Office
from oldhands.versions import Versions
from chains import ALL, CHANGES, CHURN, FIRST, RECORD
from deeds import PlainOffice, drawn_deed, plain_at, plain_set, plain_wheres, told_of
from samples import all_values, deep, items, rec, record, rows

NUMBER = ("number", 0, 9)
TEXT = ("text", 3)
FIRST_SHORT = record(n=NUMBER, t=TEXT)
SHORT_CHANGES = (((), ("turn", "n", ("scale", 10))), ((), ("put", "x", NUMBER, 4)), ((), ("drop", "t", "zz")))
SHORT = Versions(FIRST_SHORT, SHORT_CHANGES)
NO_VERSIONS = (-1, -2, -4, 4, 5, 10 ** 30, -10 ** 30)
KEYS = ["".join(some) for some in itertools.product(string.ascii_lowercase[:11], repeat=2)]
NO_NAMES = ("", "each", "A", "aB", "a1", "a b", "abcdefghi", "a\n", "\"", 0, -1, (), ("a",))

# Rows by numbers and by texts, rows in lists and lists in rows, a record in a record.
WIDE = record(
    b=record(r=("rows", "k", record(k=("number", 0, 2)), 2)),
    l=("list", ("list", NUMBER, 2), 2),
    m=("list", ("rows", "t", record(n=("number", 0, 1), t=("text", 1)), 2), 2),
    r=("rows", "k", record(k=("number", -1, 2), l=("list", ("number", 0, 1), 2), x=record(y=("number", 0, 1))), 3),
    t=("rows", "t", record(n=("number", 0, 1), t=("text", 4)), 3),
)
WIDE_RECORD = rec(
    b=rec(r=rows(rec(k=0), rec(k=2))),
    l=items(items(1, 2), items()),
    m=items(rows(rec(n=0, t="a")), rows(rec(n=0, t=""), rec(n=1, t="a"))),
    r=rows(rec(k=-1, l=items(1), x=rec(y=0)), rec(k=1, l=items(), x=rec(y=1))),
    t=rows(rec(n=0, t="each"), rec(n=1, t="n"), rec(n=1, t="t")),
)


class OfficeTest(unittest.TestCase):
    def refused(self, office, refusal, do, *arguments):
        """What is refused changes nothing."""
        before = told_of(office)
        for again in range(2):
            with self.subTest(arguments=arguments), self.assertRaises(refusal) as caught:
                do(*arguments)
            self.assertIs(type(caught.exception), refusal)
        self.assertEqual(told_of(office), before)

    def told(self, office, deed, told):
        """A deed tells this, and stands behind the others."""
        before = office.deeds()
        with self.subTest(deed=deed):
            self.assertEqual(office.do(deed), told)
            self.assertEqual(office.deeds(), before + [deed])

    def reads(self, office, key, *views):
        for again in range(2):
            self.assertEqual([office.read(number, key) for number in range(office.versions().many())], list(views))


class ToldTest(OfficeTest):
    def test_begins_with_no_deeds(self):
        for versions in (SHORT, ALL, Versions(record(), [])):
            office = Office(versions)
            self.assertEqual((office.deeds(), office.all_keys()), ([], []))
            self.assertIsInstance(office.versions(), Versions)
            self.assertEqual(office.versions().many(), versions.many())

    def test_deeds_of_every_word(self):
        office = Office(Versions(FIRST_SHORT, SHORT_CHANGES[:2]))
        self.told(office, ("write", 1, "key", rec(n=37, t="ab")), ("new", "key"))
        self.reads(office, "key", rec(n=3, t="ab"), rec(n=37, t="ab"), rec(n=37, t="ab", x=4))
        self.told(office, ("write", 2, "key", rec(n=37, t="ab", x=9)), ("turned", "key", (2, 2)))
        self.told(office, ("write", 0, "key", rec(n=3, t="c")), ("turned", "key", (0, 2)))
        self.reads(office, "key", rec(n=3, t="c"), rec(n=37, t="c"), rec(n=37, t="c", x=9))
        self.told(office, ("write", 1, "key", rec(n=37, t="c")), ("turned", "key", None))
        self.told(office, ("set", 0, "key", ("t",), "d"), ("turned", "key", (0, 2)))
        self.told(office, ("set", 2, "key", ("x",), 8), ("turned", "key", (2, 2)))
        self.told(office, ("set", 1, "key", ("n",), 39), ("turned", "key", (1, 2)))
        self.told(office, ("set", 1, "key", ("n",), 39), ("turned", "key", None))
        self.reads(office, "key", rec(n=3, t="d"), rec(n=39, t="d"), rec(n=39, t="d", x=8))
        self.told(office, ("grow", SHORT_CHANGES[2]), ("version", 3))
        self.reads(office, "key", rec(n=3, t="d"), rec(n=39, t="d"), rec(n=39, t="d", x=8), rec(n=39, x=8))
        self.told(office, ("set", 3, "key", ("x",), 1), ("turned", "key", (2, 3)))
        self.told(office, ("write", 3, "abcdefgh", rec(n=1, x=2)), ("new", "abcdefgh"))
        self.reads(office, "abcdefgh", rec(n=0, t="zz"), rec(n=1, t="zz"), rec(n=1, t="zz", x=2), rec(n=1, x=2))
        self.assertEqual(office.all_keys(), ["abcdefgh", "key"])
        self.told(office, ("drop", "key"), ("gone", "key"))
        self.assertEqual(office.all_keys(), ["abcdefgh"])
        # Begun anew it has nothing of what was.
        self.told(office, ("write", 0, "key", rec(n=3, t="d")), ("new", "key"))
        self.reads(office, "key", rec(n=3, t="d"), rec(n=30, t="d"), rec(n=30, t="d", x=4), rec(n=30, x=4))

    def test_offices_are_apart(self):
        one, two = Office(SHORT), Office(SHORT)
        one.do(("write", 0, "a", rec(n=1, t="")))
        one.do(("grow", ((), ("drop", "x", 0))))
        self.assertEqual((two.all_keys(), two.deeds(), two.versions().many(), SHORT.many()), ([], [], 4, 4))
        self.assertEqual((one.all_keys(), one.versions().many()), (["a"], 5))

    def test_read_is_refused(self):
        office = Office(SHORT)
        office.do(("write", 0, "a", rec(n=1, t="")))
        for number in NO_VERSIONS:
            for key in ("a", "b", "", "each"):
                self.refused(office, BadVersion, office.read, number, key)
        for number in range(4):
            for key in ("b", "", "aa", "each"):
                self.refused(office, NoRecord, office.read, number, key)

    def test_the_askers_own(self):
        office = Office(SHORT)
        office.do(("write", 0, "a", rec(n=1, t="")))
        keys, deeds, versions = office.all_keys(), office.deeds(), office.versions()
        self.assertIsInstance(deeds, list)
        keys.append("b")
        deeds.clear()
        self.assertEqual((office.all_keys(), office.deeds()), (["a"], [("write", 0, "a", rec(n=1, t=""))]))
        keys, deeds = office.all_keys(), office.deeds()
        office.do(("write", 0, "b", rec(n=1, t="")))
        office.do(("grow", ((), ("drop", "x", 0))))
        self.assertEqual((keys, len(deeds), versions.many()), (["a"], 1, 4))
        office.back()
        office.back()
        office.back()
        self.assertEqual((keys, len(deeds), versions.many()), (["a"], 1, 4))


class FormTest(OfficeTest):
    GOOD = (
        ("write", 0, "a", rec(n=1, t="")), ("write", 0, "z", rec(n=1, t="")), ("set", 0, "a", ("n",), 2),
        ("set", 3, "a", (), rec(n=1, x=2)), ("drop", "a"), ("grow", ((), ("drop", "x", 0))),
    )

    def office(self):
        office = Office(SHORT)
        office.do(("write", 1, "a", rec(n=37, t="ab")))
        return office

    def no_deed(self, office, deed):
        self.refused(office, NoDeed, office.do, deed)

    def test_the_good_ones(self):
        for deed in self.GOOD:
            office = self.office()
            office.do(deed)
            self.assertEqual(office.deeds()[-1], deed)

    def test_words(self):
        office = self.office()
        for deed in self.GOOD:
            for word in ("", "Write", "write ", "writes", "sets", "begin", "read", "back", "again", "turned", "name", 0,
                         1, (), ("write",), ("drop",)):
                self.no_deed(office, (word,) + deed[1:])
        for word in ("set", "drop", "grow", "write"):
            for deed in self.GOOD:
                if word != deed[0]:
                    self.no_deed(office, (word,) + deed[1:])
        self.no_deed(office, ())

    def test_how_many_entries(self):
        office = self.office()
        for deed in self.GOOD:
            for count in range(len(deed)):
                self.no_deed(office, deed[:count])
            for more in (0, "a", (), ("n",)):
                self.no_deed(office, deed + (more,))

    def test_a_number_for_a_version(self):
        office = self.office()
        for deed in self.GOOD[:4]:
            for other in ("", "0", "a", (), (0,), ("n",)):
                self.no_deed(office, (deed[0], other) + deed[2:])

    def test_a_name_for_a_key(self):
        office = self.office()
        for deed in self.GOOD[:4]:
            for other in NO_NAMES:
                self.no_deed(office, deed[:2] + (other,) + deed[3:])
        for other in NO_NAMES:
            self.no_deed(office, ("drop", other))

    def test_a_tuple_for_a_record_and_a_change(self):
        office = self.office()
        for other in (0, 5, "", "record", "x"):
            for key in ("a", "z"):
                self.no_deed(office, ("write", 0, key, other))
            self.no_deed(office, ("grow", other))

    def test_a_tuple_of_numbers_and_texts_for_a_where(self):
        office = self.office()
        for other in (0, "n", "", ((),), (("n",),), ("n", ()), ("n", ("n",)), (0, (0,)), ("n", 0, "n", ())):
            self.no_deed(office, ("set", 0, "a", other, 2))

    def test_a_value_of_any_sort(self):
        office = self.office()
        for value in (-1, 10, "", "a", (), ("record", ()), ("list", ()), ((), "a", ((),))):
            self.refused(office, BadValue, office.do, ("set", 0, "a", ("n",), value))

    def test_told_ahead_of_all_else(self):
        office = self.office()
        for number in (0, 4, -1):
            self.no_deed(office, ("write", number, "each", rec()))
            self.no_deed(office, ("write", number, "a", 0))
            self.no_deed(office, ("set", number, "A", ("n",), 2))
            self.no_deed(office, ("set", number, "b", ((),), 2))
            self.no_deed(office, ("set", number, "b", 0, 2))


class RefusedTest(OfficeTest):
    def office(self):
        office = Office(SHORT)
        office.do(("write", 1, "a", rec(n=37, t="ab")))
        office.do(("write", 3, "a", rec(n=37, x=9)))
        return office

    def test_no_version(self):
        office = self.office()
        for number in NO_VERSIONS:
            for key in ("a", "b"):
                for one in (rec(n=1, t=""), rec(), ()):
                    self.refused(office, BadVersion, office.do, ("write", number, key, one))
                for where in (("n",), ("q",), ()):
                    for value in (1, "", ()):
                        self.refused(office, BadVersion, office.do, ("set", number, key, where, value))

    def test_no_record(self):
        office = self.office()
        for key in ("b", "aa", "keys"):
            self.refused(office, NoRecord, office.do, ("drop", key))
            for where in (("n",), ("q",), (0,), ()):
                for value in (1, "", rec(n=1, t="")):
                    self.refused(office, NoRecord, office.do, ("set", 0, key, where, value))
        office.do(("drop", "a"))
        self.refused(office, NoRecord, office.do, ("drop", "a"))
        self.refused(office, NoRecord, office.do, ("set", 0, "a", ("n",), 1))

    def test_no_value(self):
        office = self.office()
        for key in ("a", "b"):
            for number, some in enumerate((
                (rec(n=10, t=""), rec(n=1), rec(n=1, t="", x=2), rec(n="1", t=""), rec(n=1, t="abcd"), ()),
                (rec(n=91, t=""), rec(n=1, t=1), rec(), ("list", ()), ("record",), ("record", (), ())),
                (rec(n=1, t=""), rec(n=1, x=2), rec(n=1, t="", x=10), (0,), ("n", 1)),
                (rec(n=1, t="", x=1), rec(n=1), rec(x=1), ((),), ("rows", ())),
            )):
                for one in some:
                    self.refused(office, BadValue, office.do, ("write", number, key, one))

    def test_grow(self):
        office = Office(Versions(FIRST, []))
        office.do(("write", 0, "a", RECORD))
        for many in (0, 20):
            for change, refusal in (((("x",), ("put", "x", TEXT, "")), BadPath), (((), ("drop", "q", 0)), BadPiece),
                                    (((), ("turn", "l", ("cut", 1))), BadTurn), (((), ()), BadPiece),
                                    ((("l", "each"), ("put", "x", deep(3), items())), BadKind)):
                self.refused(office, refusal, office.do, ("grow", change))
            if many == 0:
                for number, change in enumerate(CHANGES):
                    self.told(office, ("grow", change), ("version", number + 1))
        self.refused(office, Full, office.do, ("grow", ((), ("put", "z", TEXT, ""))))

    def test_a_hundred_and_one_more(self):
        office = Office(SHORT)
        for at, key in enumerate(KEYS[:100]):
            self.assertEqual(office.do(("write", 0, key, rec(n=at % 10, t=""))), ("new", key))
        self.assertEqual(office.all_keys(), sorted(KEYS[:100]))
        last = KEYS[100]
        self.refused(office, Full, office.do, ("write", 0, last, rec(n=1, t="")))
        # Told ahead of it are these.
        self.refused(office, NoDeed, office.do, ("write", 0, last, 0))
        self.refused(office, BadVersion, office.do, ("write", 4, last, rec(n=1, t="")))
        self.refused(office, BadValue, office.do, ("write", 0, last, rec(n=1)))
        self.refused(office, NoRecord, office.do, ("set", 0, last, ("n",), 1))
        # One that is kept can be written.
        self.told(office, ("write", 0, KEYS[99], rec(n=0, t="")), ("turned", KEYS[99], (0, 3)))
        self.told(office, ("set", 1, KEYS[99], ("n",), 7), ("turned", KEYS[99], (1, 3)))
        self.told(office, ("drop", KEYS[5]), ("gone", KEYS[5]))
        self.told(office, ("write", 0, last, rec(n=1, t="")), ("new", last))
        self.refused(office, Full, office.do, ("write", 0, KEYS[5], rec(n=1, t="")))
        self.assertEqual(office.back(), ("write", 0, last, rec(n=1, t="")))
        self.told(office, ("write", 0, KEYS[5], rec(n=1, t="")), ("new", KEYS[5]))


class SetTest(OfficeTest):
    def office(self, one=WIDE_RECORD):
        office = Office(Versions(WIDE, []))
        office.do(("write", 0, "a", one))
        return office

    def test_at_every_where(self):
        office = self.office()
        for where, kind in plain_wheres(WIDE, WIDE_RECORD):
            own = plain_at(WIDE, WIDE_RECORD, where)
            self.told(office, ("set", 0, "a", where, own), ("turned", "a", None))
            office.back()
            # Rows' items and keys are looked at below.
            if kind[0] in ("number", "list"):
                for value in all_values(kind)[:8]:
                    told = plain_set(WIDE, WIDE_RECORD, where, value)
                    if where[-1] not in ("k", "t"):
                        stretch = None if value == own else (0, 0)
                        self.told(office, ("set", 0, "a", where, value), ("turned", "a", stretch))
                        self.assertEqual(office.read(0, "a"), told)
                        office.back()
        self.assertEqual(office.read(0, "a"), WIDE_RECORD)

    def test_whole_ones(self):
        # Other rows have items of other keys; none of these has turned.
        for where, value, told in (
            (("r",), rows(), {"r": rows()}),
            (("r",), rows(rec(k=0, l=items(), x=rec(y=0))), {"r": rows(rec(k=0, l=items(), x=rec(y=0)))}),
            (("b",), rec(r=rows(rec(k=1))), {"b": rec(r=rows(rec(k=1)))}),
            (("b", "r"), rows(rec(k=1)), {"b": rec(r=rows(rec(k=1)))}),
            (("m", 0), rows(rec(n=1, t="b")),
             {"m": items(rows(rec(n=1, t="b")), rows(rec(n=0, t=""), rec(n=1, t="a")))}),
            (("m",), items(), {"m": items()}),
            (("r", 1), rec(k=1, l=items(1, 1), x=rec(y=0)),
             {"r": rows(rec(k=-1, l=items(1), x=rec(y=0)), rec(k=1, l=items(1, 1), x=rec(y=0)))}),
            (("t", "t"), rec(n=0, t="t"), {"t": rows(rec(n=0, t="each"), rec(n=1, t="n"), rec(n=0, t="t"))}),
            (("t", "each", "n"), 1, {"t": rows(rec(n=1, t="each"), rec(n=1, t="n"), rec(n=1, t="t"))}),
            (("t", "n", "n"), 0, {"t": rows(rec(n=0, t="each"), rec(n=0, t="n"), rec(n=1, t="t"))}),
            (("l", 1), items(3), {"l": items(items(1, 2), items(3))}),
            (("l", 0, 1), 9, {"l": items(items(1, 9), items())}),
        ):
            office = self.office()
            self.told(office, ("set", 0, "a", where, value), ("turned", "a", (0, 0)))
            self.assertEqual(office.read(0, "a"), rec(**(dict(WIDE_RECORD[1]) | told)))
        other = rec(b=rec(r=rows()), l=items(), m=items(), r=rows(), t=rows())
        office = self.office()
        self.told(office, ("set", 0, "a", (), other), ("turned", "a", (0, 0)))
        self.assertEqual(office.read(0, "a"), other)

    def test_no_place(self):
        office = self.office()
        for where in (
            ("q",), ("each",), (0,), ("",), ("l", 2), ("l", -1), ("l", "0"), ("l", "each"), ("l", 1, 0), ("l", 0, 2),
            ("l", 0, 0, 0), ("l", 0, 0, "n"), ("r", 0), ("r", "1"), ("r", -1, "q"), ("r", -1, "l", 1), ("r", -1, 0),
            ("r", "each"), ("r", 1, "x", "y", "y"), ("t", "a"), ("t", 0), ("t", "each", "each"), ("m", 2), ("m", 0, ""),
            ("m", 0, 0), ("b", "k"), ("b", "r", 1), ("b", "r", 0, "r"), ("B",), ("l", 10 ** 30), ("l",) * 9, (1,) * 12,
        ):
            # Ahead of what is no value there.
            for value in (0, "", (), WIDE_RECORD):
                self.refused(office, BadPath, office.do, ("set", 0, "a", where, value))

    def test_no_place_but_at_another_version(self):
        office = Office(SHORT)
        office.do(("write", 0, "a", rec(n=1, t="b")))
        for number, name in ((0, "x"), (1, "x"), (3, "t")):
            self.refused(office, BadPath, office.do, ("set", number, "a", (name,), 0))
        self.told(office, ("set", 2, "a", ("x",), 0), ("turned", "a", (2, 3)))

    def test_no_value_of_the_shape(self):
        office = self.office()
        for where, values in (
            ((), (0, "", (), rec(), ("record",), rec(b=rec(r=rows()), l=items(), m=items(), r=rows()))),
            (("l", 0, 0), (-1, 10, "", "1", (), items(1), (1,))),
            (("l", 0), (0, "", items(1, 2, 3), items(10), rows(), ("list",), ("list", 1))),
            (("l",), (items(1), items(items(), items(), items()), rows())),
            (("r",), (items(), rows(rec(k=2, l=items(), x=rec(y=0)), rec(k=0, l=items(), x=rec(y=0))), rows(0), 5)),
            (("r", 1), (rec(k=1), 1, rows(), rec(k=1, l=items(), x=rec(y=2)), rec(k=1, l=items(), x=rec(y=1), z=1))),
            (("r", 1, "k"), (3, -2, "1", ())),
            (("t", "n", "t"), ("abcde", 0, (), "a\"")),
        ):
            for value in values:
                self.refused(office, BadValue, office.do, ("set", 0, "a", where, value))

    def test_a_key_that_would_turn(self):
        office = self.office()
        for where, values in (
            # Free ones in order, free ones out of order, and those of other items.
            (("r", 1, "k"), (0, 2, -1)),
            (("r", -1, "k"), (0, 1, 2)),
            (("r", 1), [rec(k=key, l=items(), x=rec(y=1)) for key in (0, 2, -1)]),
            (("t", "n", "t"), ("o", "nn", "", "each", "t")),
            (("t", "t"), [rec(n=1, t=text) for text in ("u", "tt", "a", "n")]),
            (("b", "r", 0, "k"), (1, 2)),
            (("b", "r", 2), (rec(k=1), rec(k=0))),
            (("m", 0, "a", "t"), ("", "b")),
            (("m", 1, ""), (rec(n=0, t="b"), rec(n=1, t="a"))),
        ):
            for value in values:
                self.refused(office, BadValue, office.do, ("set", 0, "a", where, value))
            # The key as it is may be set.
            own = plain_at(WIDE, WIDE_RECORD, where)
            self.told(office, ("set", 0, "a", where, own), ("turned", "a", None))

    def test_a_set_is_a_write_of_what_is_read(self):
        for seed in range(8):
            chance = random.Random(seed)
            versions = (ALL, CHURN)[seed % 2]
            one, other, plain = Office(versions), Office(versions), PlainOffice(versions)
            for at in range(12):
                deed = drawn_deed(*plain.states[-1], chance, keys="a")
                told = plain.do(deed)
                self.assertEqual(one.do(deed), told)
                if deed[0] == "set":
                    number, key, where, value = deed[1:]
                    record_then = plain_set(versions.shape(number), other.read(number, key), where, value)
                    deed = ("write", number, key, record_then)
                self.assertEqual(other.do(deed), told)
                self.assertEqual(told_of(one)[:4], told_of(other)[:4])


class HistoryTest(OfficeTest):
    DEEDS = (
        ("write", 0, "a", rec(n=1, t="b")), ("write", 3, "b", rec(n=44, x=0)), ("set", 1, "a", ("n",), 17),
        ("grow", ((), ("name", "x", "y"))), ("set", 4, "b", ("y",), 3), ("drop", "a"),
        ("write", 4, "a", rec(n=90, y=9)), ("write", 2, "b", rec(n=44, t="zz", x=3)), ("grow", ((), ("drop", "y", 0))),
        ("drop", "b"),
    )

    def states(self):
        """What an office tells ahead of each deed and behind the last one."""
        found = []
        for count in range(len(self.DEEDS) + 1):
            office = Office(SHORT)
            for deed in self.DEEDS[:count]:
                office.do(deed)
            found.append(told_of(office))
        return found

    def test_taken_back_and_done_again(self):
        states = self.states()
        office = Office(SHORT)
        for deed in self.DEEDS:
            office.do(deed)
        for low in (9, 5, 0, 3, 0):
            while len(office.deeds()) > low:
                count = len(office.deeds())
                self.assertEqual(office.back(), self.DEEDS[count - 1])
                self.assertEqual(told_of(office), states[count - 1])
            while len(office.deeds()) < len(self.DEEDS):
                count = len(office.deeds())
                self.assertEqual(office.again(), self.DEEDS[count])
                self.assertEqual(told_of(office), states[count + 1])
            self.refused(office, NoDeed, office.again)

    def test_none_to_take_back_or_do_again(self):
        office = Office(SHORT)
        self.refused(office, NoDeed, office.back)
        self.refused(office, NoDeed, office.again)
        office.do(self.DEEDS[0])
        self.refused(office, NoDeed, office.again)
        office.back()
        self.refused(office, NoDeed, office.back)
        self.assertEqual(office.again(), self.DEEDS[0])
        self.refused(office, NoDeed, office.again)
        self.assertEqual(office.back(), self.DEEDS[0])

    def test_a_deed_done_since(self):
        for since in (("write", 0, "c", rec(n=0, t="")), ("set", 0, "a", ("n",), 1), ("drop", "a"),
                      ("grow", ((), ("drop", "x", 0)))):
            office = Office(SHORT)
            for deed in self.DEEDS[:3]:
                office.do(deed)
            office.back()
            office.back()
            office.do(since)
            self.refused(office, NoDeed, office.again)
            self.assertEqual(office.deeds(), [self.DEEDS[0], since])
            self.assertEqual(office.back(), since)
            self.assertEqual(office.again(), since)
            self.refused(office, NoDeed, office.again)
            self.assertEqual([office.back(), office.back()], [since, self.DEEDS[0]])
            self.assertEqual([office.again(), office.again()], [self.DEEDS[0], since])

    def test_a_deed_that_turns_nothing_is_a_deed(self):
        office = Office(SHORT)
        office.do(("write", 0, "a", rec(n=1, t="b")))
        office.do(("write", 0, "b", rec(n=2, t="b")))
        office.back()
        self.told(office, ("set", 0, "a", ("n",), 1), ("turned", "a", None))
        self.refused(office, NoDeed, office.again)
        self.assertEqual(office.back(), ("set", 0, "a", ("n",), 1))

    def test_a_refused_deed_is_none(self):
        office = Office(SHORT)
        for deed in self.DEEDS[:3]:
            office.do(deed)
        office.back()
        office.back()
        for deed, refusal in ((("write", 0, "a", rec()), BadValue), (("drop", "b"), NoRecord), (("drop", ""), NoDeed),
                              (("set", 4, "a", ("n",), 1), BadVersion), (("set", 0, "a", ("x",), 1), BadPath),
                              (("grow", ((), ("drop", "q", 0))), BadPiece)):
            self.refused(office, refusal, office.do, deed)
        self.assertEqual([office.again(), office.again()], list(self.DEEDS[1:3]))
        self.assertEqual(office.deeds(), list(self.DEEDS[:3]))

    def test_versions_come_and_go(self):
        office = Office(Versions(FIRST, []))
        office.do(("write", 0, "a", RECORD))
        for change in CHANGES:
            office.do(("grow", change))
        self.refused(office, Full, office.do, ("grow", ((), ("put", "z", TEXT, ""))))
        office.do(("write", 20, "a", office.read(20, "a")))
        for number in range(20, 15, -1):
            office.back()
        self.assertEqual(office.versions().many(), 17)
        self.refused(office, BadVersion, office.read, 17, "a")
        # Another version may come in the place of one that was taken back.
        self.told(office, ("grow", ((), ("put", "z", TEXT, "q"))), ("version", 17))
        self.assertEqual(dict(office.read(17, "a")[1])["z"], "q")

    def test_beside_one_that_keeps_all(self):
        for seed in range(9):
            chance = random.Random(seed)
            versions, changes = ((Versions(FIRST, []), CHANGES), (Versions(FIRST, CHANGES[:9]), CHANGES), (CHURN, ()))[
                seed % 3]
            office, plain = Office(versions), PlainOffice(versions)
            for at in range(60):
                drawn = chance.random()
                if drawn < 0.25 and plain.rows:
                    self.assertEqual(office.back(), plain.back())
                elif drawn < 0.45 and plain.undone:
                    self.assertEqual(office.again(), plain.again())
                else:
                    deed = drawn_deed(*plain.states[-1], chance, changes)
                    self.assertEqual(office.do(deed), plain.do(deed))
                if at % 4 == 0:
                    self.assertEqual(told_of(office), plain.told())
            self.assertEqual(told_of(office), plain.told())


if __name__ == "__main__":
    unittest.main()
