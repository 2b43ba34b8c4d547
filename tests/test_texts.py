"""Texts that are read back: [13.1] to [13.4], with [0.2], [0.3], [0.4]."""

import random
import unittest

from oldhands.errors import BadKind, BadText, BadValue
from oldhands.kinds import made_kind
from oldhands.texts import read_change, read_kind, read_path, read_piece, read_turn, read_value
from oldhands.values import is_of, least_value
from oldhands.words import change_text, kind_text, path_text, piece_text, turn_text, value_text
from samples import deep, items, nudged, rec, record, rows, some_value
from writing import (
    KINDS, PATHS, PIECES, SIGNS, TOKEN, TURNS, VALUES, form_change, form_kind, form_path, form_piece, form_turn,
    form_value,
    plain_sorts, spaced, with_blanks, written_changes,
)

NUMBER = ("number", 0, 9)


def any_value(text):
    """A value that is read for a kind of which nearly none is: it is refused with BadText or else for its kind."""
    return read_value(text, ("number", 0, 0))


# The readers of what is read by its form alone, and how it is written.
FORMED = {
    "turn": (read_turn, turn_text, form_turn), "piece": (read_piece, piece_text, form_piece),
    "path": (read_path, path_text, form_path), "change": (read_change, change_text, form_change),
}


class TextTest(unittest.TestCase):
    def refused(self, refusal, do, *arguments):
        for again in range(2):
            with self.subTest(do=do.__name__, arguments=arguments), self.assertRaises(refusal) as caught:
                do(*arguments)
            self.assertIs(type(caught.exception), refusal)

    def bad(self, *texts, readers=(read_kind, any_value, read_turn, read_piece, read_path, read_change)):
        for text in texts:
            for do in readers:
                self.refused(BadText, do, text)

    def reads(self, do, text, thing, *more):
        with self.subTest(do=do.__name__, text=text):
            for again in range(2):
                self.assertEqual(do(text, *more), thing)


class ReadBackTest(TextTest):
    def test_turns_pieces_paths_and_changes(self):
        for sort, pairs in (("turn", TURNS), ("piece", PIECES), ("path", PATHS), ("change", written_changes())):
            for thing, text in pairs:
                self.reads(FORMED[sort][0], text, thing)

    def test_kinds(self):
        for kind, text in KINDS[:-2]:
            self.assertEqual(made_kind(kind), kind)
            self.reads(read_kind, text, kind)

    def test_values(self):
        self.reads(read_value, "7", 7, NUMBER)
        self.reads(read_value, '"a b"', "a b", ("text", 3))
        self.reads(read_value, '"red"', "red", ("choice", ("blue", "red")))
        self.reads(read_value, "[1, 2]", items(1, 2), ("list", NUMBER, 2))
        self.reads(read_value, "{}", rec(), record())
        self.reads(read_value, "()", rows(), ("rows", "k", record(k=NUMBER), 1))
        self.reads(read_value, '({k: "", l: [{}]}, {k: "x", l: []})',
                   rows(rec(k="", l=items(rec())), rec(k="x", l=items())),
                   ("rows", "k", record(k=("text", 1), l=("list", record(), 1)), 2))

    def test_kinds_and_values_within_pieces_are_any(self):
        for kind, text in KINDS:
            self.reads(read_piece, f"put(a, {text}, 0)", ("put", "a", kind, 0))
        for value, text in VALUES:
            self.reads(read_piece, f"drop(a, {text})", ("drop", "a", value))
            self.reads(read_change, f"/ put(each, text(0), {text})", ((), ("put", "each", ("text", 0), value)))

    def test_drawn_values_of_kinds(self):
        for kind, text in KINDS[:-2]:
            for seed in range(20):
                chance = random.Random(seed)
                value = some_value(kind, chance, SIGNS)
                self.reads(read_value, value_text(value), value, kind)
                self.reads(read_value, with_blanks(value_text(value), chance), value, kind)

    def test_drawn_forms(self):
        for sort, (read, write, drawn) in FORMED.items():
            for seed in range(150):
                chance = random.Random(seed)
                thing = drawn(chance)
                text = write(thing)
                self.reads(read, text, thing)
                self.reads(read, with_blanks(text, chance), thing)
                self.reads(read, with_blanks(text, chance, 0), thing)

    def test_each_sign_in_a_text(self):
        for sign in SIGNS:
            self.reads(read_piece, f'split(a, "{sign}", b, c)', ("split", "a", sign, "b", "c"))
            self.reads(read_value, f'"{sign}"', sign, ("text", 1))
        self.reads(read_value, f'"{SIGNS}"', SIGNS, ("text", 99))
        self.reads(read_piece, f'drop(a, "{SIGNS * 40}")', ("drop", "a", SIGNS * 40))


class KindTest(TextTest):
    def test_what_is_no_kind(self):
        for text in ("record(each: text(1))", "number(9, 0)", "text(-1)", "text(61)", "choice(each)", "choice(a, a)",
                     "list(9, text(1))", "list(-1, text(1))", "record(b: text(1), a: text(1))",
                     "record(a: text(1), a: text(1))", "rows(k, 1, record())", "rows(k, 1, text(1))",
                     "rows(each, 1, record(each: text(1)))", "rows(k, 9, record(k: text(1)))", kind_text(deep(6)),
                     "number(0, 1" + "0" * 31 + ")", "choice(" + ", ".join("abcdefghi") + ")",
                     "record(a: record(each: text(1)))", "number(0, -1" + "0" * 59 + ")"):
            self.refused(BadKind, read_kind, text)
            self.refused(BadKind, read_kind, f" {text} ")

    def test_drawn_forms(self):
        good = 0
        for seed in range(400):
            chance = random.Random(seed)
            kind = form_kind(chance)
            try:
                made_kind(kind)
            except BadKind:
                self.refused(BadKind, read_kind, kind_text(kind))
            else:
                good += 1
                self.reads(read_kind, with_blanks(kind_text(kind), chance), kind)
        self.assertGreater(good, 5)

    def test_bad_text_ahead_of_bad_kind(self):
        for text in ("record(each: text(1)", "number(9, 0,)", "text(-1) text(1)", "choice(a, a", "list(9, text(1), 2)",
                     "record(b: text(1), a: text(1),)", "rows(k, 1, record()", "text(99)x"):
            self.refused(BadText, read_kind, text)


class ValueTest(TextTest):
    def test_what_is_of_no_such_kind(self):
        line = record(k=NUMBER)
        for text, kind in (
            ("10", NUMBER), ("-1", NUMBER), ('"1"', NUMBER), ("1", ("text", 1)), ('"ab"', ("text", 1)),
            ("[]", record()),
            ("()", ("list", NUMBER, 1)), ("[]", ("rows", "k", line, 1)), ("{}", line), ("{k: 1, l: 1}", line),
            ("{l: 1}", line), ("{k: 1, k: 1}", line), ("{b: 1, a: 1}", record(a=NUMBER, b=NUMBER)),
            ("({k: 2}, {k: 1})", ("rows", "k", line, 2)), ("({k: 1}, {k: 1})", ("rows", "k", line, 2)),
            ("({k: 1}, {k: 2})", ("rows", "k", line, 1)), ('"red"', ("choice", ("blue",))),
            ("[1, 2]", ("list", NUMBER, 1)),
            ("{each: 1}", line), ("1" + "0" * 59, NUMBER),
        ):
            self.refused(BadValue, read_value, text, kind)
        self.refused(BadText, read_value, "red", ("choice", ("red",)))

    def test_drawn_forms(self):
        for seed in range(300):
            chance = random.Random(seed)
            value = form_value(chance)
            for kind in (NUMBER, ("text", 5), record(), ("list", NUMBER, 2), ("rows", "k", record(k=NUMBER), 2)):
                if is_of(value, kind):
                    self.reads(read_value, value_text(value), value, kind)
                else:
                    self.refused(BadValue, read_value, value_text(value), kind)

    def test_nearly_of_the_kind(self):
        for kind, text in KINDS[:-2]:
            chance = random.Random(3)
            for other, own in KINDS[:-2]:
                value = nudged(other, least_value(other), chance)
                if is_of(value, kind):
                    self.reads(read_value, value_text(value), value, kind)
                else:
                    self.refused(BadValue, read_value, value_text(value), kind)

    def test_bad_text_ahead_of_bad_value(self):
        for text in ("10 1", "[1", "{k: 1", '"ab', "[],", "{l 1}"):
            self.refused(BadText, read_value, text, NUMBER)


class WordsTest(TextTest):
    """[13.1]: what is a word."""

    def test_letters(self):
        self.reads(read_path, "/abcdefgh", ("abcdefgh",))
        for word in ("abcdefghi", "a" * 20, "A", "aB", "a1", "1a", "a_b", "a-b", "a.b", "_", "a'", "*"):
            self.bad(f"/{word}", readers=(read_path,))
            self.bad(f"name({word}, a)", f"drop({word}, 0)", readers=(read_piece,))
            self.bad(f"choice({word})", f"record({word}: text(1))", readers=(read_kind,))
            self.bad(f"/ name({word}, a)", f"/{word} name(a, b)", readers=(read_change,))
        # A run of letters is one word, however it could be parted.
        self.bad("/abcdefghname(a, b)", "/aname(a, b) ", readers=(read_change,))
        self.reads(read_change, "/aname name(a, b)", (("aname",), ("name", "a", "b")))

    def test_numbers(self):
        for text, number in (("0", 0), ("9", 9), ("10", 10), ("-1", -1), ("-10", -10), ("9" * 60, 10 ** 60 - 1),
                             ("-" + "9" * 60, 1 - 10 ** 60), ("1" + "0" * 59, 10 ** 59)):
            self.reads(read_turn, f"scale({text})", ("scale", number))
            self.reads(read_turn, f"bounds( {text} ,{text})", ("bounds", number, number))
            self.reads(read_piece, f"drop(a, {text})", ("drop", "a", number))
            self.reads(read_value, text, number, ("number", -10 ** 60, 10 ** 60))
        for text in ("-0", "00", "01", "-01", "- 1", "-", "--1", "+1", "1.", "1.0", "1e3", "1_0", "9" * 61,
                     "-" + "9" * 61,
                     "1" + "0" * 60, "0" * 60, "1 0", "1-", "1-2", "0x1", "", "a", '"1"', "1 -", "0-1", "-9" * 2):
            self.bad(f"scale({text})", f"bounds(0, {text})", readers=(read_turn,))
            self.bad(f"text({text})", readers=(read_kind,))
            self.bad(f"part(a, {text}, b, c)", f"whole(a, b, {text}, c, 0, 0)", readers=(read_piece,))
            if text != '"1"':
                self.bad(f"[{text}, 1]", f"drop(a, {text})", readers=(any_value,))
                self.bad(f"drop(a, {text})", readers=(read_piece,))

    def test_texts(self):
        for text in ('"', '"a', 'a"', '"a""b"', '"a\nb"', '"\n"', '""" "', '"a" "b"', "'a'", '"%"', '"\t"', '"\x7f"'):
            self.bad(text, readers=(any_value,))
            self.bad(f"split(a, {text}, b, c)", f"drop(a, {text})", readers=(read_piece,))
            self.bad(f"/ drop(a, {text})", readers=(read_change,))

    def test_other_signs(self):
        for sign in SIGNS + '\n%"':
            if sign not in "()[]{},:;/ -0123456789abcdefghijklmnopqrstuvwxyz":
                for text in ("number(0, 9)", "[1, 2]", "out()", "drop(a, 0)", "/", "/a", "/ drop(a, 0)"):
                    self.bad(sign, sign + text, text + sign, text[:1] + sign + text[1:], text[:-1] + sign + text[-1:])

    def test_blanks_anywhere(self):
        for sort, text, thing in (
            (read_kind, " record ( a : text ( 1 ) , b : list ( 2 , choice ( x , y ) ) ) ",
             record(a=("text", 1), b=("list", ("choice", ("x", "y")), 2))),
            (read_kind, "record(a:text(1),b:rows(k,2,record(k:number(-1,1))))",
             record(a=("text", 1), b=("rows", "k", record(k=("number", -1, 1)), 2))),
            (read_turn, "  words( x ,y ; y :low,x: mid )", ("words", ("x", "y"), (("y", "low"), ("x", "mid")))),
            (read_turn, "out ( )", ("out",)), (read_piece, "  drop (a ,0 )  ", ("drop", "a", 0)),
            (read_path, " / ", ()), (read_path, " / a / each ", ("a", "each")), (read_path, "/a /b", ("a", "b")),
            (read_change, "/drop(a,0)", ((), ("drop", "a", 0))),
            (read_change, "  /  drop  (a, 0)", ((), ("drop", "a", 0))),
            (read_change, "/ drop drop(a,0)", (("drop",), ("drop", "a", 0))),
            (read_change, "/drop/drop drop(a,0)", (("drop", "drop"), ("drop", "a", 0))),
            (read_change, " / b / each name ( a , c ) ", (("b", "each"), ("name", "a", "c"))),
        ):
            self.reads(sort, text, thing)
        self.reads(read_value, ' { a : [ 1 , -2 ] ,b:( ) } ', rec(a=items(1, -2), b=rows()),
                   record(a=("list", ("number", -9, 9), 2), b=("rows", "k", record(k=NUMBER), 1)))
        # Blanks within a text are its own.
        self.reads(read_value, '  " a  b "  ', " a  b ", ("text", 9))


class BadTextTest(TextTest):
    def test_nothing(self):
        self.bad("", " ", "   ", "\n")

    def test_other_words(self):
        for word in ("numbers", "texts", "bound", "puts", "a", "each", "list", "row", "cat", "items", "lists",
                     "nothing"):
            self.bad(f"{word}(0, 9)", f"{word}(1)", f"{word}(a, 1)", f"{word}",
                     readers=(read_turn, read_kind, read_piece))
        self.bad("number(0, 9)", "text(1)", "record()", "out()", "cut(1)", readers=(read_piece, any_value, read_path))
        self.bad("text(1)", "choice(a)", "record()", "put(a, text(1), 0)", "drop(a, 0)", readers=(read_turn,))
        self.bad("bounds(0, 9)", "cut(1)", "drop(a, 0)", "out()", "words(a; a: b)", readers=(read_kind,))
        self.bad("turn(a, text(1))", "turn(a, drop(a, 0))", "put(a, cut(1), 0)", "put(a, bounds(0, 9), 0)",
                 "drop(a, text(1))", "drop(a, cut(1))", "drop(a, b)", readers=(read_piece,))
        # A number is a kind and a turn.
        self.reads(read_turn, "number(0, 9)", ("number", 0, 9))
        self.reads(read_kind, "number(0, 9)", ("number", 0, 9))

    def test_another_count_of_parts(self):
        for do, pairs in ((read_kind, KINDS), (read_turn, TURNS), (read_piece, PIECES)):
            for thing, text in pairs:
                word, inner = thing[0], text[text.index("(") + 1:-1]
                self.bad(word, f"{word}({inner}", f"{word} {inner})", f"{word}({inner}))", f"({text})",
                         f"{word}({inner},)",
                         f"{word}(,{inner})", f"{word}({inner};)", readers=(do,))
                if word not in ("choice", "record", "words"):
                    comma = ", " if inner else ""
                    for more in ("0", "a", '""', "text(1)", "cut(1)", "number(0, 9)"):
                        self.bad(f"{word}({inner}{comma}{more})", f"{word}({more}{comma}{inner})", readers=(do,))
                    if inner:
                        self.bad(f"{word}()", readers=(do,))

    def test_another_sort_of_part(self):
        for do, pairs, sort in ((read_kind, KINDS, "kind"), (read_turn, TURNS, "turn"), (read_piece, PIECES, "piece")):
            for thing, text in pairs:
                tokens = TOKEN.findall(text)
                for at in range(len(tokens)):
                    for other in ("0", "a", '""', "text(1)", "cut(1)", "[]", "{}", "()", "/", ",", ":", ";", "(", ")"):
                        self.one_sort(do, sort, " ".join(tokens[:at] + [other] + tokens[at + 1:]))

    def one_sort(self, do, sort, text):
        """A text is refused with BadText just where the patterns tell that it is not of the sort."""
        with self.subTest(do=do.__name__, text=text):
            try:
                do(text)
            except BadText:
                self.assertNotIn(sort, plain_sorts(text))
            except (BadKind, BadValue):
                self.assertIn(sort, plain_sorts(text))
            else:
                self.assertIn(sort, plain_sorts(text))

    def test_commas_colons_and_semicolons(self):
        self.bad("[1, 2,]", "[,]", "[, 1]", "[1 2]", "[1,, 2]", "[1; 2]", "[1: 2]", "{a: 1,}", "{,}", "{a 1}", "{a; 1}",
                 "{a, 1}", "{a: 1 b: 2}", "{a: 1; b: 2}", "{1: a}", '{"a": 1}', "{a:}", "{: 1}", "{a}", "(1,)", "(,)",
                 "(1 2)", "a", "[a]", "[1", "1]", "[1)", "(1]", "{a: 1]", "[1}", "1, 2", "1 2", "[] []", "[[]", "[]]",
                 readers=(any_value,))
        self.bad("record(a text(1))", "record(a, text(1))", "record(a; text(1))", "record(: text(1))", "record(a:)",
                 "record(a: text(1),)", "record(a: text(1) b: text(1))", "record(a: text(1); b: text(1))", "record",
                 "record[]", "record{}", "record(,)", "choice()", "choice(,)", "choice(a,)", "choice(a b)",
                 "choice(a; b)",
                 "choice", "choice(a: b)", 'choice("a")', "choice(1)", "record(1: text(1))", "list(text(1), 2)",
                 "rows(k, record(k: text(1)), 1)", "rows(1, k, record(k: text(1)))", 'rows("k", 1, record(k: text(1)))',
                 readers=(read_kind,))

    def test_words_without_one_on_either_side(self):
        self.bad("words()", "words(;)", "words(a;)", "words(; a: b)", "words(a)", "words(a: b)", "words(a, b)",
                 "words(a: b; a)", "words(a; b)", "words(a; a: b;)", "words(a; a: b; a: b)", "words(a, ; a: b)",
                 "words(a; a: b,)", "words(a b; a: b)", "words(a; a: b a: b)", "words(a; a b)", "words(a; a, b)",
                 "words(1; a: b)", 'words("a"; a: b)', "words(a; a: 1)", "words(a; 1: a)", "words(a, a: b)", "words",
                 "words(a; a: b", "words a; a: b)", "words(a; ; a: b)", "words(; a; a: b)", readers=(read_turn,))
        self.bad("turn(a, words(;))", "turn(a, words(b;))", readers=(read_piece,))

    def test_paths(self):
        self.bad("a", "a/b", "//", "//a", "/a/", "/a//b", "/ /", "/1", '/"a"', "/a b", "/a,b", "/(a)", "/a()", "/-1",
                 "/a /", "", "/a/b c", "/[", readers=(read_path,))
        self.bad("drop(a, 0)", "/", "/a", "/a/ drop(a, 0)", "// drop(a, 0)", "/a/drop(a, 0)", "/ / drop(a, 0)",
                 "drop(a, 0) /", "/ drop(a, 0) drop(a, 0)", "/ a b drop(a, 0)", "/a, drop(a, 0)", "/a: drop(a, 0)",
                 "/ cut(1)", "/ text(1)", "/ 0", "/a (drop(a, 0))", "/ drop", "/a drop", "(/ drop(a, 0))",
                 "/0 drop(a, 0)",
                 readers=(read_change,))
        self.reads(read_path, "/a" * 1000, ("a",) * 1000)

    def test_brackets_within_one_another(self):
        for many, good in ((2, True), (6, True), (39, True), (40, True), (41, False), (42, False), (90, False),
                           (400, False)):
            outer = many - 1
            for text in ("[" * many + "]" * many, "(" * many + ")" * many, "{a: " * outer + "{}" + "}" * outer,
                         "[1, " * outer + "()" + "]" * outer, "[" * outer + "()" + ", 1]" * outer):
                self.refused(BadValue if good else BadText, any_value, text)
            self.nested(read_turn, "items(" * outer + "out()" + ")" * outer, good)
            self.nested(read_piece, "drop(a, " + "[" * outer + "]" * outer + ")", good)
            self.nested(read_piece, "drop(a, " + "{b: " * (outer - 1) + "{}" + "}" * (outer - 1) + ")", good)
            self.nested(read_change, "/ drop(a, " + "(" * outer + ")" * outer + ")", good)
            if many > 5:
                self.refused(BadKind if good else BadText, read_kind, "list(1, " * outer + "text(1)" + ")" * outer)
        self.refused(BadText, any_value, "[" * 4000)
        self.refused(BadText, any_value, "[" * 2000 + "]" * 2000)
        # Side by side they are not within one another.
        self.nested(read_piece, "drop(a, [" + ", ".join(["[[]]"] * 60) + "])", True)
        # Brackets in texts are none.
        self.nested(read_piece, 'drop(a, "' + "(" * 60 + '")', True)

    def nested(self, do, text, good):
        if good:
            told = do(text)
            self.assertEqual(do(text), told)
        else:
            self.refused(BadText, do, text)


class DrawnTest(TextTest):
    """Good texts with words and signs taken out, put in and exchanged, beside the patterns."""

    READERS = {"kind": (read_kind, form_kind, kind_text), "value": (any_value, form_value, value_text)} | {
        sort: (read, drawn, write) for sort, (read, write, drawn) in FORMED.items()}

    def looked_at(self, text):
        expected = plain_sorts(text)
        for sort, (do, drawn, write) in self.READERS.items():
            with self.subTest(sort=sort, text=text):
                try:
                    told = do(text)
                except BadText:
                    self.assertNotIn(sort, expected)
                except (BadKind, BadValue):
                    self.assertIn(sort, expected)
                else:
                    self.assertIn(sort, expected)
                    self.assertEqual(write(told), spaced(text))
        return bool(expected)

    def test_words(self):
        told = []
        others = ["0", "-1", "a", "each", '""', '"x y"', "(", ")", "[", "]", "{", "}", ",", ":", ";", "/", "out",
                  "number",
                  "text", "drop", "01", "abcdefghi", "=", "-"]
        for seed in range(2000):
            chance = random.Random(seed)
            do, drawn, write = self.READERS[chance.choice(sorted(self.READERS))]
            tokens = TOKEN.findall(write(drawn(chance)))
            for at in range(chance.choice((1, 1, 2))):
                place = chance.randint(0, len(tokens))
                tokens[place:place + chance.randint(0, 1)] = [chance.choice(others)] * chance.randint(0, 1)
            told.append(self.looked_at(" ".join(tokens)))
        self.assertGreater(told.count(True), 50)
        self.assertGreater(told.count(False), 50)

    def test_signs(self):
        told = []
        for seed in range(2000):
            chance = random.Random(seed)
            do, drawn, write = self.READERS[chance.choice(sorted(self.READERS))]
            text = write(drawn(chance))
            place = chance.randint(0, len(text))
            other = chance.choice((chance.choice(SIGNS), chance.choice('0a-,() "/[]{}:;\n'), ""))
            told.append(self.looked_at(text[:place] + other + text[place + chance.randint(0, 1):]))
        self.assertGreater(told.count(True), 50)
        self.assertGreater(told.count(False), 50)

    def test_beginnings_and_ends(self):
        for sort, (do, drawn, write) in self.READERS.items():
            for seed in range(6):
                text = write(drawn(random.Random(seed)))
                for at in range(0, len(text) + 1, 1 if len(text) < 60 else 7):
                    self.looked_at(text[:at])
                    self.looked_at(text[at:])


if __name__ == "__main__":
    unittest.main()
