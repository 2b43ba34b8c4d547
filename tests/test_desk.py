"""The desk, and the rows by which it is asked: [14.1] to [14.4], with [0.2], [0.4]."""

import itertools
import random
import string
import unittest

from oldhands.desk import Desk, deed_text, where_text
from oldhands.errors import BadKind, BadText, HandError
from oldhands.losses import loser
from oldhands.office import Office
from oldhands.questions import asked
from oldhands.shapes import kind_at
from oldhands.texts import read_change
from oldhands.versions import Versions, lost_between
from oldhands.words import change_text, kind_text, path_text, value_text
from chains import CHANGES, CHURN, FIRST, RECORD
from deeds import PlainOffice, drawn_deed, plain_at, plain_wheres
from samples import all_paths, deep, items, rec, record, rows
from writing import SIGNS, spaced, with_blanks

SHAPE = "record(a: number(0, 9), r: rows(k, 3, record(k: text(9), n: number(0, 9))), t: text(5))"
ONE = '{a: 3, r: ({k: "a b", n: 1}, {k: "each", n: 2}, {k: "tea", n: 3}), t: "x-y"}'
KEYS = ["".join(some) for some in itertools.product(string.ascii_lowercase[:11], repeat=2)]
FIGURES = "9" * 60


class DeskTest(unittest.TestCase):
    def asks(self, desk, *pairs):
        for row, told in pairs:
            with self.subTest(row=row):
                self.assertEqual(desk.ask(row), told)

    def refused(self, desk, refusal, *some):
        """Rows are refused so, each time, and change nothing."""
        before = all_told(desk)
        for row in some:
            with self.subTest(row=row):
                for again in range(2):
                    self.assertEqual(desk.ask(row), f"refused {refusal}")
        self.assertEqual(all_told(desk), before)

    def begun(self):
        """A desk of three versions, with two records, and a deed that can be done again."""
        desk = Desk(SHAPE)
        self.asks(desk, (f"write 0 k {ONE}", "new k"), ('write 0 l {a: 0, r: (), t: ""}', "new l"),
                  ('grow / split(t, "-", t, u)', "version 1"), ("grow / drop(a, 7)", "version 2"),
                  ("drop l", "gone l"), ("back", "drop l"))
        return desk


def all_told(desk):
    """All that a desk tells by rows that change nothing."""
    many = int(desk.ask("versions"))
    keys = desk.ask("keys")
    told = [many, keys]
    for number in range(many):
        told += [desk.ask(f"shape {number}"), desk.ask(f"change {number}"), desk.ask(f"loser {number}")]
        told += [desk.ask(f"read {number} {key}") for key in keys.split(" ")]
    return told


class SessionTest(DeskTest):
    def test_deeds_and_looks(self):
        desk = Desk("record(a: number(0, 9), t: text(5))")
        self.asks(
            desk,
            ("keys", "none"), ("versions", "1"), ("shape 0", "record(a: number(0, 9), t: text(5))"),
            ("back", "refused NoDeed"), ("again", "refused NoDeed"),
            ('write 0 key {a: 3, t: "x-y"}', "new key"), ("read 0 key", '{a: 3, t: "x-y"}'), ("keys", "key"),
            ("grow / turn(a, scale(10))", "version 1"), ("versions", "2"), ("change 0", "/ turn(a, scale(10))"),
            ("shape 1", "record(a: number(0, 90), t: text(5))"), ("read 1 key", '{a: 30, t: "x-y"}'),
            ("set 1 key /a 37", "turned key 1 1"), ("read 0 key", '{a: 3, t: "x-y"}'),
            ("read 1 key", '{a: 37, t: "x-y"}'),
            ('set 0 key /t "z"', "turned key 0 1"), ("read 1 key", '{a: 37, t: "z"}'),
            ("set 0 key /a 3", "turned key none"), ('write 1 key {a: 37, t: "z"}', "turned key none"),
            ('write 1 abc {a: 1, t: ""}', "new abc"), ("keys", "abc key"), ("read 0 abc", '{a: 0, t: ""}'),
            ("lost 1 0 key", "1 / 37"), ("lost 0 1 key", "none"), ("lost 1 0 abc", "1 / 1"), ("lost 1 1 key", "none"),
            ("loser 0", "none"), ("ask 1 some /a > 30", "key"), ("ask 0 every /a < 3", "abc"),
            ("ask 0 there /", "abc key"),
            ('ask 0 some /t = ""', "abc"), ("ask 1 some /a = 99", "none"), ("ask 1 every /a > 0", "abc key"),
            ("drop key", "gone key"), ("keys", "abc"), ("read 0 key", "refused NoRecord"),
            ("back", "drop key"), ("keys", "abc key"), ("read 1 key", '{a: 37, t: "z"}'),
            ("back", 'write 1 abc {a: 1, t: ""}'), ("keys", "key"), ("again", 'write 1 abc {a: 1, t: ""}'),
            ("again", "drop key"), ("again", "refused NoDeed"), ("keys", "abc"),
            ("back", "drop key"), ("back", 'write 1 abc {a: 1, t: ""}'), ("back", 'write 1 key {a: 37, t: "z"}'),
            ("back", "set 0 key /a 3"), ("back", 'set 0 key /t "z"'), ("back", "set 1 key /a 37"),
            ("back", "grow / turn(a, scale(10))"), ("versions", "1"), ("read 1 key", "refused BadVersion"),
            ("back", 'write 0 key {a: 3, t: "x-y"}'), ("back", "refused NoDeed"), ("keys", "none"),
            ("again", 'write 0 key {a: 3, t: "x-y"}'), ("drop key", "gone key"), ("again", "refused NoDeed"),
        )

    def test_what_is_handed_back_is_written_in_one_way(self):
        desk = Desk("  record( a:number(0,9),t:text(5) ) ")
        self.asks(
            desk, ("shape 0", "record(a: number(0, 9), t: text(5))"), ('write 0 key   {a:3 ,t :"x - y"}  ', "new key"),
            ("back", 'write 0 key {a: 3, t: "x - y"}'), ("again", 'write 0 key {a: 3, t: "x - y"}'),
            ("set 0 key /a  4 ", "turned key 0 0"), ("back", "set 0 key /a 4"), ("grow/drop(a,0)", "refused BadText"),
            ("grow /drop(a,0)", "version 1"), ("change 0", "/ drop(a, 0)"), ("back", "grow / drop(a, 0)"),
            ("grow  /  put ( b , list(2,text(1)),[ ] ) ", "version 1"), ("back", "grow / put(b, list(2, text(1)), [])"),
        )

    def test_a_key_called_none(self):
        desk = Desk("record()")
        self.asks(desk, ("keys", "none"), ("write 0 none {}", "new none"), ("keys", "none"), ("read 0 none", "{}"),
                  ("write 0 keys {}", "new keys"), ("keys", "keys none"), ("write 0 none {}", "turned none none"))

    def test_desks_are_apart(self):
        one, other = Desk(SHAPE), Desk(SHAPE)
        self.asks(one, (f"write 0 k {ONE}", "new k"), ("grow / drop(a, 0)", "version 1"))
        self.asks(other, ("keys", "none"), ("versions", "1"), ("back", "refused NoDeed"))
        self.asks(Desk(SHAPE), ("keys", "none"))

    def test_begun_with_what_is_no_shape(self):
        for text in ("", " ", "record", "record(", "record(a)", "record(a: text(1)", "records()", "record() record()",
                     "record(a: number(0))", "{}", "text(1", "record(a: text(01))", "record()\n", '"'):
            with self.subTest(text=text):
                self.assertRaises(BadText, Desk, text)
        for text in ("number(0, 9)", "text(1)", "choice(a)", "list(1, record())", "rows(k, 1, record(k: text(1)))",
                     "record(each: text(1))", "record(b: text(1), a: text(1))", "record(a: text(61))",
                     kind_text(deep(6)),
                     "record(a: " + kind_text(deep(5)) + ")"):
            with self.subTest(text=text):
                self.assertRaises(BadKind, Desk, text)
        self.asks(Desk("record(a: " + kind_text(deep(4)) + ")"), ("versions", "1"))


class LooksTest(DeskTest):
    def test_lost(self):
        desk = Desk("record(l: rows(k, 4, record(k: text(9), n: number(0, 9), o: text(3), p: text(3))))")
        self.asks(
            desk,
            ('write 0 k {l: ({k: "", n: 1, o: "a", p: "b-c"}, {k: "a b", n: 0, o: "-", p: "-"}, '
             '{k: "each", n: 5, o: "", p: ""}, {k: "tea", n: 9, o: "x", p: "yz"})}', "new k"),
            ("grow /l/each drop(n, 0)", "version 1"), ('grow /l/each join(o, p, "-", o)', "version 2"),
            ("grow / turn(l, first(2))", "version 3"),
            ("lost 0 1 k", '0 /l/"" 1\n0 /l/"each" 5\n0 /l/tea 9'), ("lost 1 0 k", "none"),
            ("lost 1 2 k", '1 /l/"" "a", "b-c"\n1 /l/"a b" "-", "-"\n1 /l/tea "x", "yz"'),
            ("lost 2 3 k", '2 / ({k: "", o: "a-b"}, {k: "a b", o: "---"}, {k: "each", o: ""}, {k: "tea", o: "x-y"})'),
            ("lost 3 0 k", "none"), ("lost 0 0 k", "none"), ("lost 3 3 k", "none"),
        )
        self.assertEqual(desk.ask("lost 0 3 k"), "\n".join(desk.ask(f"lost {at} {at + 1} k") for at in range(3)))

    def test_lost_downwards(self):
        desk = Desk("record(a: number(0, 9), l: list(3, record(b: number(0, 9))))")
        self.asks(
            desk, ("grow /l/each turn(b, scale(10))", "version 1"), ("grow / put(z, text(5), \"q\")", "version 2"),
            ('write 2 k {a: 1, l: [{b: 10}, {b: 11}, {b: 19}], z: "w"}', "new k"),
            ("lost 2 0 k", '2 / "w"\n1 /l/1 11\n1 /l/2 19'), ("lost 1 0 k", "1 /l/1 11\n1 /l/2 19"),
            ("lost 0 2 k", "none"),
            ("lost 2 1 k", '2 / "w"'), ("lost 1 2 k", "none"),
        )

    def test_wheres_of_numbers(self):
        desk = Desk("record(r: rows(k, 3, record(k: number(-9, 9), l: list(2, number(0, 9)), x: number(0, 9))))")
        self.asks(
            desk, ("write 0 k {r: ({k: -5, l: [1, 2], x: 1}, {k: 0, l: [3], x: 8})}", "new k"),
            ("set 0 k /r/-5/l/1 7", "turned k 0 0"), ("set 0 k /r/0/l/0 8", "turned k 0 0"),
            ("back", "set 0 k /r/0/l/0 8"), ("again", "set 0 k /r/0/l/0 8"),
            ("read 0 k", "{r: ({k: -5, l: [1, 7], x: 1}, {k: 0, l: [8], x: 8})}"),
            ("grow /r/each drop(x, 8)", "version 1"), ("lost 0 1 k", "0 /r/-5 1"), ("set 0 k /r/0/x 7", "turned k 0 0"),
            ("lost 0 1 k", "0 /r/-5 1\n0 /r/0 7"), ("set 0 k /r/-5/l/2 7", "refused BadPath"),
            ("set 0 k /r/5/l/0 7", "refused BadPath"), ('set 0 k /r/"0"/l/0 7', "refused BadPath"),
            ('set 0 k /r/-5/l/"0" 7', "refused BadPath"), ("set 0 k /r/-5/l/-1 7", "refused BadPath"),
            (f"set 0 k /r/-{FIGURES} 7", "refused BadPath"),
        )

    def test_loser(self):
        desk = Desk("record(a: number(0, 9), l: list(0, record(b: text(1))), t: text(3))")
        for number, (change, told) in enumerate((
            ("/ put(b, text(1), \"\")", "none"), ("/ drop(b, \"\")", "some"), ("/ turn(a, bounds(0, 8))", "some"),
            ("/ turn(a, bounds(0, 9))", "none"), ("/l/each drop(b, \"\")", "none"), ("/ split(t, \"-\", t, u)", "some"),
            ("/ name(t, v)", "none"),
        )):
            self.asks(desk, (f"loser {number}", "refused BadVersion"), (f"change {number}", "refused BadVersion"),
                      (f"grow {change}", f"version {number + 1}"), (f"loser {number}", told),
                      (f"change {number}", change))

    def test_ask(self):
        desk = Desk('record(a: number(-9, 9), c: choice(red, blue), l: list(3, number(0, 9)), t: text(9))')
        for key, value in (("one", '{a: -1, c: "red", l: [], t: "a b"}'),
                           ("two", '{a: 0, c: "blue", l: [1, 2], t: ""}'),
                           ("tri", '{a: 5, c: "red", l: [3], t: "each"}')):
            self.asks(desk, (f"write 0 {key} {value}", f"new {key}"))
        self.asks(
            desk,
            ("ask 0 there /", "one tri two"), ("ask 0 there /l", "one tri two"), ("ask 0 there /l/each", "tri two"),
            ("ask 0 some /l/each > 1", "tri two"), ("ask 0 every /l/each > 1", "one tri"),
            ("ask 0 every /l/each = 3", "one tri"),
            ("ask 0 some /a < 0", "one"), ("ask 0 some /a = -1", "one"), ("ask 0 some /a > -1", "tri two"),
            ('ask 0 some /c = "red"', "one tri"), ('ask 0 some /c < "red"', "two"), ('ask 0 some /t = "a b"', "one"),
            ('ask 0 every /t > ""', "one tri"), ('ask 0 some /t = "each"', "tri"),
            (f"ask 0 some /a < {FIGURES}", "one tri two"),
            (f"ask 0 some /a < -{FIGURES}", "none"), (f'ask 0 some /t = "{SIGNS}"', "none"),
            (f'ask 0 every /t > "{SIGNS}"', "one tri"), ("ask 0 some /l/each = 7", "none"),
            ("grow / drop(a, 0)", "version 1"), ("ask 0 some /a < 0", "one"),
            ("ask 1 some /a < 0", "refused BadQuestion"),
            ("ask 1 some /a = = ", "refused BadText"),
        )

    def test_what_is_no_question(self):
        for desk in (Desk(SHAPE), self.begun()):
            self.refused(desk, "BadQuestion", "ask 0 there /z", "ask 0 there /each", "ask 0 some /a = \"3\"",
                         "ask 0 some /t = 3", "ask 0 some / = 3", "ask 0 every /r = 3", "ask 0 some /r/each = 3",
                         "ask 0 there /r/each/each", "ask 0 there" + " " + "/a" * 9, "ask 0 there /r/n",
                         "ask 0 every /r/each/k < 3")

    def test_drawn_looks_beside_the_functions(self):
        desk, office = Desk(kind_text(FIRST)), Office(Versions(FIRST, []))
        chance = random.Random(4)
        plain = PlainOffice(Versions(FIRST, []))
        for change in CHANGES:
            for deed in [("grow", change)] + [drawn_deed(*plain.states[-1], chance) for at in range(1)]:
                plain.do(deed)
                self.asks(desk, (deed_text(deed), told_row(office.do(deed))))
        versions = office.versions()
        for key, start, goal in itertools.product(office.all_keys(), range(0, 21, 3), range(0, 21, 4)):
            self.asks(desk, (f"lost {start} {goal} {key}", lost_rows(versions, start, goal, office.read(start, key))))
        for number in range(20):
            shape = versions.shape(number)
            self.asks(desk, (f"shape {number}", kind_text(shape)),
                      (f"loser {number}", "none" if loser(versions.change(number), shape) is None else "some"))
            self.assertEqual(read_change(desk.ask(f"change {number}")), CHANGES[number])
            for path in all_paths(shape):
                kind = kind_at(shape, path)
                questions = [("there", path)]
                if kind[0] in ("number", "text", "choice"):
                    told = {"number": 0, "text": "a", "choice": "red"}[kind[0]]
                    questions += [(word, path, (), sign, told) for word in ("some", "every") for sign in "=<>"]
                for question in questions:
                    keys = [key for key in office.all_keys() if asked(question, shape, office.read(number, key))]
                    self.asks(desk, (asked_row(number, question), " ".join(keys) or "none"))


def asked_row(number, question):
    word, path = question[:2]
    rest = "" if word == "there" else f" {question[3]} {value_text(question[4])}"
    return f"ask {number} {word} {path_text(path)}{rest}"


def lost_rows(versions, start, goal, one):
    """What is lost, by the document's words."""
    found = []
    for version, where, values in lost_between(versions, start, goal, one):
        found.append(f"{version} {plain_where(where)} " + ", ".join(value_text(value) for value in values))
    return "\n".join(found) or "none"


def plain_where(where):
    def entry_text(entry):
        if isinstance(entry, int):
            return str(entry)
        plain = 1 <= len(entry) <= 8 and set(entry) <= set(string.ascii_lowercase) and entry != "each"
        return entry if plain else f'"{entry}"'
    return "".join(f"/{entry_text(entry)}" for entry in where) or "/"


def told_row(told):
    match told:
        case ("turned", key, None):
            return f"turned {key} none"
        case ("turned", key, (low, high)):
            return f"turned {key} {low} {high}"
        case word, rest:
            return f"{word} {rest}"


class DeedsTest(DeskTest):
    def test_where_text(self):
        for where, text in (
            ((), "/"), (("a",), "/a"), (("r", "tea", "n"), "/r/tea/n"), (("r", "each"), '/r/"each"'),
            (("r", ""), '/r/""'),
            (("r", "a b", "n"), '/r/"a b"/n'), (("l", 0, "x"), "/l/0/x"), (("r", -12), "/r/-12"),
            (("r", "5"), '/r/"5"'),
            (("r", "-5"), '/r/"-5"'), (("r", "abcdefgh"), "/r/abcdefgh"), (("r", "abcdefghi"), '/r/"abcdefghi"'),
            (("r", "A"), '/r/"A"'), (("r", "a/b"), '/r/"a/b"'), (("r", "/"), '/r/"/"'), ((0, 0), "/0/0"),
            (("r", SIGNS), f'/r/"{SIGNS}"'), ((10 ** 59,), "/1" + "0" * 59),
        ):
            with self.subTest(where=where):
                for again in range(2):
                    self.assertEqual(where_text(where), text)
                self.assertEqual(plain_where(where), text)

    def test_deed_text(self):
        for deed, text in (
            (("write", 0, "k", rec()), "write 0 k {}"), (("write", 12, "abcdefgh", rec(a=1, b="x y")),
             'write 12 abcdefgh {a: 1, b: "x y"}'), (("drop", "k"), "drop k"),
            (("set", 3, "k", ("r", "a b", "n"), -4), 'set 3 k /r/"a b"/n -4'), (("set", 0, "k", (), rec(a=items())),
             "set 0 k / {a: []}"), (("set", 0, "k", ("t",), "each"), 'set 0 k /t "each"'),
            (("set", 0, "k", ("r",), rows(rec(k=1))), "set 0 k /r ({k: 1})"),
            (("grow", ((), ("drop", "a", 0))), "grow / drop(a, 0)"),
            (("grow", (("b", "each"), ("name", "a", "c"))), "grow /b/each name(a, c)"),
        ):
            with self.subTest(deed=deed):
                for again in range(2):
                    self.assertEqual(deed_text(deed), text)

    def test_set_at_every_where(self):
        shape = record(b=record(x=("number", 0, 9)), l=("list", ("list", ("text", 3), 2), 2),
                       m=("list", ("rows", "n", record(n=("number", -5, 5)), 2), 2),
                       r=("rows", "k", record(k=("text", 9), l=("list", ("number", 0, 9), 2)), 4))
        one = rec(b=rec(x=1), l=items(items("a b", ""), items()), m=items(rows(rec(n=-3), rec(n=4)), rows()), r=rows(
            rec(k="", l=items(1, 2)), rec(k="a b/", l=items()), rec(k="each", l=items(0)), rec(k="tea", l=items())))
        desk = Desk(kind_text(shape))
        self.asks(desk, ("write 0 k " + value_text(one), "new k"))
        for where, kind in plain_wheres(shape, one):
            text = f"set 0 k {plain_where(where)} "
            value = value_text(plain_at(shape, one, where))
            self.asks(desk, (text + value, "turned k none"), ("back", text + value))
            others = {"number": "10", "text": '"123456789a"', "list": "[[[]]]", "record": "{zz: 1}",
                      "rows": "({zz: 1})"}
            self.refused(desk, "BadValue", text + others[kind[0]])
            self.refused(desk, "BadText", text + value + ",", text + "(" + value, text, text[:-1], text + "x" + value)
            self.refused(desk, "BadPath", f"set 0 k {plain_where(where + ('zz',))} {value}",
                         f"set 0 k {plain_where(where + (9,))} {value}")

    def test_a_key_that_would_turn(self):
        self.refused(self.begun(), "BadValue", 'set 0 k /r/tea/k "teb"', 'set 0 k /r/tea {k: "teb", n: 1}',
                     'set 0 k /r/tea/k "a b"', 'set 0 k /r/"each"/k "z"')

    def test_drawn_deeds_beside_one_that_keeps_all(self):
        for seed in range(12):
            chance = random.Random(seed)
            first = Versions(FIRST, []) if seed % 2 else Versions(CHURN.shape(0), [])
            changes = CHANGES if seed % 2 else [CHURN.change(number) for number in range(CHURN.many() - 1)]
            desk, plain = Desk(kind_text(first.shape(0))), PlainOffice(first)
            for at in range(40):
                word = chance.choice(["do"] * 6 + ["back", "back", "again"])
                if word == "back" and plain.rows:
                    self.asks(desk, ("back", plain_deed(plain.back())))
                elif word == "again" and plain.undone:
                    self.asks(desk, ("again", plain_deed(plain.again())))
                elif word == "do":
                    deed = drawn_deed(*plain.states[-1], chance, changes)
                    text = plain_deed(deed)
                    self.assertEqual(deed_text(deed), text)
                    self.asks(desk, (spread(deed, chance), told_row(plain.do(deed))))
                else:
                    self.asks(desk, (word, "refused NoDeed"))
                versions, views = plain.states[-1]
                self.asks(desk, ("keys", " ".join(sorted(views)) or "none"), ("versions", str(versions.many())))
                for key, some in views.items():
                    number = chance.randrange(versions.many())
                    self.asks(desk, (f"read {number} {key}", value_text(some[number])))


def plain_deed(deed):
    match deed:
        case ("write", version, key, one):
            return f"write {version} {key} {value_text(one)}"
        case ("set", version, key, where, value):
            return f"set {version} {key} {plain_where(where)} {value_text(value)}"
        case ("drop", key):
            return f"drop {key}"
        case ("grow", change):
            return f"grow {change_text(change)}"


def spread(deed, chance):
    """The row of a deed, with its value or change written in some way."""
    text = plain_deed(deed)
    if deed[0] == "drop":
        return text
    last = change_text(deed[-1]) if deed[0] == "grow" else value_text(deed[-1])
    told = with_blanks(last, chance)
    assert spaced(told) == last
    return text[:-len(last)] + told


class BadRowTest(DeskTest):
    """[14.1], [14.4]: rows that are none, or of which a part is not so written."""

    def test_no_row(self):
        self.refused(self.begun(), "BadText", "", " ", "\n", "key", "Keys", "KEYS", "keys ", " keys", "keys keys",
                     "keys\n",
                     "\nkeys", "versions ", "versions 0", "back ", "back 1", " back", "again ", "again k", "none", '"',
                     "0",
                     "refused BadText", "new k", "reads 0 k", "turned k none", "hand", "ask", "read", "write", "set",
                     "drop",
                     "grow", "shape", "change", "lost", "loser", "\"keys\"", "keys/", "keys()", "read\n0 k", "look 0 k")

    def test_how_many_words(self):
        good = ("read 0 k", "shape 0", "change 0", "lost 0 1 k", "loser 0", "ask 0 there /", "ask 0 some /a = 3",
                'ask 0 every /t = "x y"', "drop k")
        desk = self.begun()
        for row in good:
            parts = row.split(" ") if '"' not in row else ["ask", "0", "every", "/t", "=", '"x y"']
            for at in range(1, len(parts)):
                self.refused(desk, "BadText", " ".join(parts[:at]), " ".join(parts[:at]) + " ",
                             " ".join(parts[:at]) + "  " + " ".join(parts[at:]), " ".join(parts[:at] + parts[at + 1:]))
            for more in (" ", " 0", " k", "\n", " /", ' ""', " none", "  "):
                self.refused(desk, "BadText", row + more)
            self.refused(desk, "BadText", " " + row, "\n" + row, row.replace(" ", "\n"), row.replace(" ", "  "))
        for row in (f"write 0 k {ONE}", "set 0 k /a 4", "set 0 k /r/\"a b\"/n 4"):
            self.refused(desk, "BadText", row.split(" ")[0], " ".join(row.split(" ")[:2]), " ".join(row.split(" ")[:3]),
                         row.replace(" ", "  ", 1), row.replace(" 0 ", "  0 "), row.replace(" k ", "  k "), " " + row,
                         row.replace(" ", "\n", 1), row.replace(" 0 ", " 0\n"), row.replace(" 0 ", " "),
                         row.replace(" k ", " "), row.replace(" 0 k", " k 0"), row + " x", row + "\n", row + " 0")
        self.refused(desk, "BadText", "grow", "grow ", "grow  ", "grow x", "grow / drop(a, 0) x", "grow drop(a, 0)")

    def test_versions(self):
        desk = self.begun()
        for version in ("00", "01", "-0", "-1", "+1", "1.", "1.0", "a", "", "0x0", '"0"', "1" + "0" * 60, "9" * 61,
                        "0" * 60,
                        "/0", "0,", "(0)", "1_0", "0\n", "none", "-" + FIGURES):
            self.refused(desk, "BadText", f"read {version} k", f"shape {version}", f"change {version}",
                         f"loser {version}",
                         f"lost {version} 0 k", f"lost 0 {version} k", f"write {version} k {ONE}",
                         f"set {version} k /a 3",
                         f"ask {version} there /", f"ask {version} some /a = 3")

    def test_keys(self):
        desk = self.begun()
        for key in ("each", "K", "a1", "abcdefghi", "", "0", '"k"', "k,", "/k", "k/", "a-b", "k\n", "kK", "(k)", "k l"):
            self.refused(desk, "BadText", f"read 0 {key}", f"drop {key}", f"lost 0 1 {key}", f"write 0 {key} {ONE}",
                         f"set 0 {key} /a 3")
        self.refused(desk, "NoRecord", "read 0 abcdefgh", "drop eac", "lost 0 1 eache", "set 0 keys /a 3")
        self.asks(desk, (f"write 0 abcdefgh {ONE}", "new abcdefgh"))

    def test_wheres(self):
        desk = self.begun()
        for where in ("a", "", "//", "//a", "/a/", "/r/each", '/"a"', '/r/"tea"', '/r/"tea"/n', "/r/tea/", "/r//n",
                      '/r/ "a b"/n', '/r/"a b', '/r/"a b"n', '/r/"a b""n"', '"/r"', "/r/-0", "/r/01", "/r/00", "/r/+1",
                      "/r/1a",
                      "/r/a1", "/A", "/r/-", "/r/" + "9" * 61, "/abcdefghi", "/r/'tea'", "/(r)", "/r,tea", "/a\n",
                      '/r/"a\nb"', "/r/tea/n:", "/.", "/r/[0]", '/"r"/tea', '/r"tea"', "/a-b", "/r/(", "/,", "/r/:"):
            # Ahead of all else, whatever stands behind it.
            self.refused(desk, "BadText", f"set 0 k {where} 3", f"set 9 k {where} 3", f"set 0 z {where} 3",
                         f"set 0 k {where} x", f"set 0 k {where}")
        # Behind a blank comes the value.
        self.refused(desk, "BadText", "set 0 k / a 3", "set 0 k /r /tea/n 3", "set 0 k /r/tea /n 3")
        self.refused(desk, "BadPath", 'set 0 k /r/a b" 3')
        self.refused(desk, "BadPath", f"set 0 k /r/{FIGURES} 3", f"set 0 k /r/-{FIGURES} 3", 'set 0 k /r/"abcdefghi" 3',
                     'set 0 k /"each" 3', 'set 0 k /r/"" 3', 'set 0 k /r/" " 3', "set 0 k /abcdefgh 3", "set 0 k /0 3",
                     "set 0 k " + "/a" * 12 + " 3", f'set 0 k /r/"{SIGNS}" 3')

    def test_paths(self):
        desk = self.begun()
        for path in ("a", "", "//", "//a", "/a/", "/ a", "/r /each", '/"a"', "/0", "/r/0", "/-1", "/abcdefghi", "/A",
                     "/r//n",
                     "/a,b", "/a()", "/(a)", "a/b", "/a\n", "/.", '"/a"', "/r/ each"):
            self.refused(desk, "BadText", f"ask 0 there {path}", f"ask 0 some {path} = 3", f"ask 0 every {path} > 3",
                         f"ask 9 there {path}", f"ask 9 some {path} = 3")
        self.refused(desk, "BadQuestion", "ask 0 there /abcdefgh", "ask 0 there /each/each",
                     "ask 0 there " + "/each" * 100)

    def test_signs_and_what_is_told(self):
        desk = self.begun()
        for sign in ("", "==", "<=", ">=", "!", "!=", "is", "<>", '"="', "/", "=<", "-", "0", "=\n"):
            self.refused(desk, "BadText", f"ask 0 some /a {sign} 3", f"ask 9 every /a {sign} 3",
                         f"ask 0 some /z {sign} 3")
        for told in ("", "a", "-0", "00", "03", "+3", "3.", "9" * 61, "-" + "9" * 61, '"', '"a', 'a"', '"a""b"',
                     '"a" "b"',
                     '"a\nb"', "[3]", "{}", "()", "3 ", " 3", '"a" ', ' "a"', "3 3", "3,", "/", "none", "- 3", "'a'",
                     "3\n"):
            self.refused(desk, "BadText", f"ask 0 some /a = {told}", f"ask 9 every /a = {told}",
                         f"ask 0 some /z = {told}",
                         f"ask 0 some /t = {told}")
        for word in ("not", "both", "Some", "any", "", "none", "every ", "there"):
            self.refused(desk, "BadText", f"ask 0 {word} /a = 3")
        for word in ("not", "both", "some", "every", "There", "", "there "):
            self.refused(desk, "BadText", f"ask 0 {word} /a", f"ask 9 {word} /z")

    def test_values_and_changes(self):
        desk = self.begun()
        for value in ("", " ", "x", "{", ONE[:-1], ONE + "}", ONE + " 1", "record()", "{a: 3 t: 4}", "{a: 03}", "{a: }",
                      "\n",
                      ONE.replace("x-y", "x\ny"), "[" * 41 + "]" * 41):
            self.refused(desk, "BadText", f"write 0 k {value}", f"write 0 z {value}", f"set 0 k / {value}",
                         f"set 0 k /a {value}")
        for value in ("{}", "3", '""', "()", "[]", ONE.replace("a: 3", "a: 10"), ONE.replace("a: 3", "b: 3"),
                      ONE.replace('"tea"', '"A"')):
            self.refused(desk, "BadValue", f"write 0 k {value}", f"write 0 z {value}", f"set 0 k / {value}")
        for change in ("", "x", "drop(u, \"\")", "/", "/drop", "/ drop(u)", "/ drop(u, \"\"", "/ drop(u, \"\") /",
                       "/ text(1)",
                       "/a/ drop(u, 0)", "/ drop(u, 0), 0", "/ put(a, text(1), " + "[" * 40 + "]" * 40 + ")"):
            self.refused(desk, "BadText", f"grow {change}")
        for change, refusal in (
            ("/z drop(u, \"\")", "BadPath"), ("/u drop(u, \"\")", "BadPath"), ("/ drop(z, \"\")", "BadPiece"),
            ("/ drop(u, 0)", "BadPiece"), ("/ turn(u, scale(2))", "BadTurn"),
            ("/ put(each, text(1), \"\")", "BadPiece"),
            ("/r/each drop(k, \"\")", "BadPiece"), ("/ put(z, text(61), \"\")", "BadPiece"),
            ("/ name(u, t)", "BadPiece"),
            ("/r/each put(z, list(1, list(1, list(1, text(1)))), [])", "BadKind"),
            ("/a" * 9 + " drop(u, 0)", "BadPath"),
            ("/ split(u, \"--\", v, w)", "BadPiece"),
        ):
            self.refused(desk, refusal, f"grow {change}")


class OrderTest(DeskTest):
    """[14.4]: which refusal goes first."""

    def test_bad_version(self):
        desk = self.begun()
        for version in ("3", "4", "10", FIGURES, "1" + "0" * 59):
            self.refused(desk, "BadVersion", f"read {version} k", f"read {version} z", f"shape {version}",
                         f"change {version}",
                         f"loser {version}", f"lost {version} 0 k", f"lost 0 {version} k", f"lost 0 {version} z",
                         f"lost {version} {version} z", f"write {version} k {ONE}", f"write {version} k x",
                         f"write {version} z {{}}", f"set {version} k /a 3", f"set {version} z /a 3",
                         f"set {version} k /z 3",
                         f"set {version} k /a x", f"ask {version} there /", f"ask {version} there /z",
                         f"ask {version} some /a = \"\"")
        # Of the last version no change leads on.
        self.refused(desk, "BadVersion", "change 2", "loser 2")
        self.asks(desk, ("change 1", "/ drop(a, 7)"), ("loser 1", "some"), ("shape 2", desk.ask("shape 2")))

    def test_no_record(self):
        self.refused(self.begun(), "NoRecord", "read 0 z", "drop z", "lost 0 1 z", "lost 2 0 z", "set 0 z /a 3",
                     "set 0 z /z 3", "set 0 z /a x", "set 0 z /a 99", "set 2 z / {")

    def test_bad_path(self):
        desk = self.begun()
        self.refused(desk, "BadPath", "set 0 k /z 3", "set 0 k /z x", "set 0 k /a/a 3", "set 0 k /r/z 3",
                     "set 0 k /r/z {",
                     "set 2 k /a 3", "set 0 k /0 3", "set 0 k /r/0 3", 'set 0 k /r/"A" 99')
        self.refused(desk, "BadText", "set 2 k /a", "set 0 k /a x", "set 0 k /r/tea {")
        self.refused(desk, "BadValue", "set 0 k /a 10", 'set 0 k /a ""', "set 0 k /r/tea {}")

    def test_full(self):
        desk = Desk("record(a: number(0, 9))")
        for key in KEYS[:100]:
            self.asks(desk, (f"write 0 {key} {{a: 1}}", f"new {key}"))
        last = KEYS[100]
        self.assertEqual(desk.ask("keys"), " ".join(KEYS[:100]))
        self.asks(desk, (f"write 0 {last} {{a: 1}}", "refused Full"),
                  (f"write 1 {last} {{a: 1}}", "refused BadVersion"),
                  (f"write 0 {last} {{a: 1", "refused BadText"), (f"write 0 {last} {{a: 10}}", "refused BadValue"),
                  (f"write 0 {KEYS[0]} {{a: 2}}", f"turned {KEYS[0]} 0 0"), (f"drop {KEYS[0]}", f"gone {KEYS[0]}"),
                  (f"write 0 {last} {{a: 1}}", f"new {last}"))
        for number in range(20):
            self.asks(desk, ("grow / name(a, a)", f"version {number + 1}"))
        self.asks(desk, ("grow / name(a, a)", "refused Full"), ("grow / name(a, a", "refused BadText"),
                  ("grow / name(z, a)", "refused BadPiece"), ("versions", "21"), ("back", "grow / name(a, a)"),
                  ("grow / name(a, b)", "version 20"))

    def test_a_refused_row_is_no_deed(self):
        desk = self.begun()
        for row in ("x", "read 0 z", "write 0 k {}", "write 9 k {}", "set 0 k /z 3", "drop z", "grow x",
                    "grow / drop(z, 0)",
                    "ask 0 there /z", "keys", "read 0 k", "shape 0", "lost 0 2 k", "loser 0", "ask 0 there /",
                    "versions"):
            desk.ask(row)
        self.asks(desk, ("again", "drop l"), ("again", "refused NoDeed"), ("back", "drop l"),
                  ("back", "grow / drop(a, 7)"),
                  ("again", "grow / drop(a, 7)"), ("set 0 k /a 3", "turned k none"), ("again", "refused NoDeed"))

    def test_names_of_refusals(self):
        desk = self.begun()
        some = ("x", "read 9 k", "read 0 z", "set 0 k /z 3", "write 0 k {}", "grow / drop(z, 0)", "ask 0 there /z",
                "grow / turn(u, scale(2))")
        told = {desk.ask(row) for row in some}
        names = {cls.__name__ for cls in HandError.__subclasses__()}
        self.assertEqual({text.split(" ")[0] for text in told}, {"refused"})
        self.assertLessEqual({text.split(" ")[1] for text in told}, names)
        self.assertEqual(len(told), 8)


class AnyTextTest(DeskTest):
    def test_any_text_is_answered(self):
        desk = self.begun()
        good = ["read 0 k", "lost 0 2 k", f"write 0 k {ONE}", 'set 0 k /r/"a b"/n 4', "grow / drop(u, \"\")", "back",
                "again",
                "ask 0 some /a = 3", "drop l", "keys", "versions", "shape 1", "change 1", "loser 1"]
        told = set()
        for seed in range(3000):
            chance = random.Random(seed)
            row = chance.choice(good)
            for at in range(chance.choice((1, 1, 2))):
                place = chance.randint(0, len(row))
                other = chance.choice((chance.choice(SIGNS), chance.choice(' "\n/0k,()'), ""))
                row = row[:place] + other + row[place + chance.randint(0, 1):]
            answer = desk.ask(row)
            self.assertIs(type(answer), str)
            self.assertLessEqual(set(answer), set(SIGNS + '"\n'))
            told.add(answer.split(" ")[0] if "refused" not in answer else answer)
            if not desk.ask("read 2 k").startswith("{"):
                desk = self.begun()
        self.assertGreater(len(told), 6)

    def test_long_texts(self):
        desk = self.begun()
        for row in ("keys" * 1000, " " * 4000, "\"" * 4000, "/" * 4000, "write 0 k " + "[" * 3990,
                    "set 0 k " + "/a" * 1990 + " 3",
                    "set 0 k /" + "9" * 3980, "read " + "9" * 3990 + " k", "ask 0 there " + "/a" * 1990, "\n" * 4000,
                    "grow " + "/a" * 1980 + " drop(a, 0)", "write 0 k " + "9" * 3990, "ask 0 some /a = " + "9" * 3980):
            with self.subTest(row=row[:20]):
                self.assertTrue(desk.ask(row).startswith("refused Bad"))
        value = "{a: 3, r: ()," + " " * 3900 + 't: ""}'
        self.asks(desk, (f"write 0 k {value}", "turned k 0 2"), ("read 0 k", '{a: 3, r: (), t: ""}'))

    def test_the_same_question_has_the_same_answer(self):
        desk, other = self.begun(), self.begun()
        self.assertEqual(all_told(desk), all_told(other))
        self.assertEqual(all_told(desk), all_told(desk))
        desk = Desk(kind_text(FIRST))
        self.asks(desk, ("write 0 k " + value_text(RECORD), "new k"), ("read 0 k", value_text(RECORD)))


if __name__ == "__main__":
    unittest.main()
