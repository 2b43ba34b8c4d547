"""Questions led back by changes and from version to version: [11.2], [11.3], with [0.4]."""

import random
import unittest

from oldhands.backward import question_back, question_between
from oldhands.changes import change_about, shape_behind
from oldhands.errors import BadKind, BadPath, BadPiece, BadQuestion, BadTurn, BadVersion
from oldhands.leading import led
from oldhands.questions import asked, made_question
from oldhands.versions import Versions, led_between
from asking import all_leaves, plain_asked, plain_is_question
from chains import ALL, CHANGES, CHURN, FIRST
from samples import deep, items, rec, record, some_value
from ways import all_changes

NUMBER = ("number", -9, 9)
TEXT = ("text", 5)
CHOICE = ("choice", ("red", "blue"))
BOX = record(c=CHOICE)
SHAPE = record(
    a=NUMBER, b=BOX, c=CHOICE, g=("list", ("list", NUMBER, 2), 2), l=("list", record(a=NUMBER, b=BOX, t=TEXT), 2),
    t=TEXT, u=TEXT,
)
RECORDS = [some_value(SHAPE, random.Random(seed)) for seed in range(8)]
# One that has room for what goes deeper.
FLAT = record(b=BOX, l=("list", record(a=NUMBER, t=TEXT), 2))
FLAT_RECORDS = [some_value(FLAT, random.Random(seed)) for seed in range(8)]
FALSE = ("not", ("there", ()))


class Untold(Exception):
    """What 11.2 does not tell."""


def plain_led(question, change):
    """The words of 11.2, one after the other."""
    at, piece = change
    match question:
        case ("not", one):
            return ("not", plain_led(one, change))
        case ("both", one, other):
            return ("both", plain_led(one, change), plain_led(other, change))
    word, path = question[:2]
    if path[:len(at)] != at:
        return question
    rest = path[len(at):]

    def by(elder, *looks):
        return ("there", at + elder) if word == "there" else (word, at + elder, looks + question[2], *question[3:])

    match piece[0], piece[1:], rest:
        case "put", (name, kind, value), (own, *inner) if own == name:
            passes = plain_asked((word, tuple(inner), *question[2:]), kind, value)
            if word == "every":
                return ("there", ()) if passes else ("not", ("there", at))
            return ("there", at) if passes else FALSE
        case "name", (old, new), (own, *inner) if own == new:
            return by((old, *inner))
        case "sink", (name, box), (first, own, *inner) if (first, own) == (box, name):
            return by((name, *inner))
        case "lift", (box, name), (own, *inner) if own == name:
            return by((box, name, *inner))
        case "turn", (name, turn), (own, *inner) if own == name:
            elder, looks = plain_turned(turn, inner)
            return by((name, *elder), *looks)
        case "split", (name, sep, one, two), (own,) if own in (one, two):
            return by((name,), ("ahead" if own == one else "behind", sep))
        case "part", (name, k, one, two), (own,) if own in (one, two):
            return by((name,), ("parts" if own == one else "rest", k))
        case ("join" | "whole"), _, (own, *inner) if own == piece[4]:
            raise Untold
    return question


def plain_turned(turn, inner):
    match turn, inner:
        case _, []:
            return [], [turn]
        case ("one", _), ["each", *more]:
            return more, []
        case ("items", one), ["each", *more]:
            elder, looks = plain_turned(one, more)
            return ["each", *elder], looks
    raise Untold


def plain_back(question, change, shape):
    """The question led back, None where it is refused."""
    try:
        told = plain_led(question, change)
    except Untold:
        return None
    return told if plain_is_question(told, shape) else None


class BackTest(unittest.TestCase):
    def refused(self, refusal, do, *arguments):
        for again in range(2):
            with self.subTest(arguments=arguments), self.assertRaises(refusal) as caught:
                do(*arguments)
            self.assertIs(type(caught.exception), refusal)

    def flat(self, change, question, told):
        self.told(change, question, told, FLAT, FLAT_RECORDS)

    def told(self, change, question, told, shape=SHAPE, records=RECORDS):
        """A question is led back to this one, which tells of each record the same; or is refused."""
        behind = shape_behind(change, shape)
        self.assertEqual(made_question(question, behind), question)
        if told is None:
            self.refused(BadQuestion, question_back, question, change, shape)
            return
        with self.subTest(change=change, question=question):
            self.assertEqual(question_back(question, change, shape), told)
            self.assertEqual(made_question(told, shape), told)
            for one in records:
                self.assertIs(asked(told, shape, one), asked(question, behind, led(change, shape, one)))


class WordsTest(BackTest):
    def test_what_does_not_go_into_a_made_field_stays(self):
        for change in (((), ("put", "x", NUMBER, 1)), ((), ("drop", "u", "")), ((), ("name", "u", "x")),
                       (("l", "each"), ("put", "x", NUMBER, 1)), (("l", "each"), ("lift", "b", "c")),
                       (("b",), ("put", "x", NUMBER, 1)), ((), ("turn", "u", ("cut", 1))),
                       (("l", "each"), ("turn", "t", ("cut", 1))), (("l", "each"), ("sink", "t", "b")),
                       ((), ("split", "u", "-", "x", "y")), ((), ("join", "u", "t", "-", "x"))):
            for question in (
                ("there", ()), ("there", ("l",)), ("there", ("l", "each")), ("there", ("b",)),
                ("there", ("l", "each", "b")),
                ("some", ("a",), (), "=", 1), ("every", ("l", "each", "a"), (("rest", 2),), ">", 0),
                ("some", ("g", "each"), (("out",),), "<", 3), ("some", ("b", "c"), (), "=", "red"),
            ):
                self.told(change, question, question)
        # Under the same name at another path it is another field.
        for path in (("a",), ("l", "each", "a")):
            question = ("some", path, (), "=", 3)
            self.told((path[:-1], ("turn", "a", ("scale", 3))), question, ("some", path, (("scale", 3),), "=", 3))
            other = ("l", "each") if len(path) == 1 else ()
            self.told((other, ("turn", "a", ("scale", 3))), question, question)

    def test_name_sink_and_lift(self):
        for word, rest in (("there", ()), ("some", ((("rest", 2),), "=", 1)), ("every", ((), "<", 4))):
            self.told(((), ("name", "a", "z")), (word, ("z",), *rest), (word, ("a",), *rest))
            self.told((("l", "each"), ("name", "a", "z")), (word, ("l", "each", "z"), *rest),
                      (word, ("l", "each", "a"), *rest))
            self.told((("l", "each"), ("sink", "a", "b")), (word, ("l", "each", "b", "a"), *rest),
                      (word, ("l", "each", "a"), *rest))
            self.told(((), ("name", "g", "z")), (word, ("z", "each", "each"), *rest),
                      (word, ("g", "each", "each"), *rest))
        self.told(((), ("name", "l", "z")), ("some", ("z", "each", "b", "c"), (), "=", "red"),
                  ("some", ("l", "each", "b", "c"), (), "=", "red"))
        sink = ((), ("sink", "l", "b"))
        self.flat(sink, ("every", ("b", "l", "each", "a"), (), "=", 1), ("every", ("l", "each", "a"), (), "=", 1))
        self.flat(sink, ("there", ("b", "l", "each")), ("there", ("l", "each")))
        self.flat(sink, ("there", ("b", "l")), ("there", ("l",)))
        # The box itself, and what else is in it, stay.
        self.flat(sink, ("there", ("b",)), ("there", ("b",)))
        self.flat(sink, ("some", ("b", "c"), (), "=", "red"), ("some", ("b", "c"), (), "=", "red"))
        lift = (("l", "each"), ("lift", "b", "c"))
        self.told(lift, ("some", ("l", "each", "c"), (), "=", "red"), ("some", ("l", "each", "b", "c"), (), "=", "red"))
        self.told(lift, ("there", ("l", "each", "c")), ("there", ("l", "each", "b", "c")))
        self.told(((), ("name", "a", "a")), ("some", ("a",), (), "=", 1), ("some", ("a",), (), "=", 1))

    def test_turn(self):
        for turn, name, looks, told in (
            (("bounds", 0, 3), "a", (), 2), (("scale", 3), "a", (("rest", 2),), 1), (("shrink", 9), "a", (), 0),
            (("figures", 2), "a", (("behind", "-"),), "4"), (("number", 0, 5), "t", (), 0), (("cut", 2), "t", (), "a"),
            (("words", ("x", "x"), (("x", "blue"),)), "c", (), "x"), (("one", 2), "a", (("out",),), 3),
            (("items", ("out",)), "g", (("out",),), 0), (("out",), "g", (("out",),), 0),
            (("first", 1), "g", (("out",), ("out",)), 0),
        ):
            for word in ("some", "every"):
                for sign in "=<>":
                    self.told(((), ("turn", name, turn)), (word, (name,), looks, sign, told),
                              (word, (name,), (turn,) + looks, sign, told))
            self.told(((), ("turn", name, turn)), ("there", (name,)), ("there", (name,)))

    def test_through_the_list_of_one(self):
        change = ((), ("turn", "a", ("one", 3)))
        for word in ("some", "every"):
            self.told(change, (word, ("a", "each"), (("rest", 2),), "=", 1), (word, ("a",), (("rest", 2),), "=", 1))
        self.told(change, ("there", ("a", "each")), ("there", ("a",)))
        self.told(change, ("there", ("a",)), ("there", ("a",)))
        change = ((), ("turn", "l", ("one", 3)))
        self.flat(change, ("some", ("l", "each", "each", "t"), (), "=", ""), ("some", ("l", "each", "t"), (), "=", ""))
        self.flat(change, ("there", ("l", "each", "each")), ("there", ("l", "each")))
        self.flat(change, ("there", ("l", "each")), ("there", ("l",)))
        change = ((), ("turn", "b", ("one", 1)))
        self.told(change, ("every", ("b", "each", "c"), (), "=", "red"), ("every", ("b", "c"), (), "=", "red"))

    def test_through_items(self):
        change = ((), ("turn", "g", ("items", ("items", ("scale", 2)))))
        self.told(change, ("some", ("g", "each", "each"), (), ">", 9),
                  ("some", ("g", "each", "each"), (("scale", 2),), ">", 9))
        self.told(change, ("every", ("g", "each"), (("out",),), ">", 9),
                  ("every", ("g", "each"), (("items", ("scale", 2)), ("out",)), ">", 9))
        self.told(change, ("there", ("g", "each", "each")), ("there", ("g", "each", "each")))
        self.told(change, ("there", ("g", "each")), ("there", ("g", "each")))
        change = ((), ("turn", "g", ("items", ("one", 2))))
        self.told(change, ("some", ("g", "each", "each", "each"), (), "=", 1),
                  ("some", ("g", "each", "each"), (), "=", 1))
        self.told(change, ("some", ("g", "each", "each"), (("out",),), "=", 1),
                  ("some", ("g", "each"), (("out",),), "=", 1))
        change = ((), ("turn", "g", ("items", ("out",))))
        self.told(change, ("some", ("g", "each"), (), "=", 0), ("some", ("g", "each"), (("out",),), "=", 0))
        # A list in a list: within it another turn than one or items.
        change = ((), ("turn", "g", ("items", ("first", 1))))
        self.told(change, ("some", ("g", "each", "each"), (), "=", 0), None)
        self.told(change, ("there", ("g", "each", "each")), None)
        self.told(change, ("there", ("g", "each")), ("there", ("g", "each")))

    def test_paths_that_go_on_into_another_turn(self):
        for turn, path in ((("first", 1), ("l", "each")), (("first", 1), ("l", "each", "a")), (("out",), ("l", "a")),
                           (("out",), ("l", "t")), (("first", 8), ("l", "each"))):
            self.flat(((), ("turn", "l", turn)), ("there", path), None)
        for word in ("some", "every"):
            self.told(((), ("turn", "l", ("first", 1))), (word, ("l", "each", "a"), (), "=", 0), None)
            self.told(((), ("turn", "l", ("out",))), (word, ("l", "a"), (), "=", 0), None)
            self.told(((), ("turn", "g", ("out",))), (word, ("g", "each"), (), "=", 0), None)
            self.told(((), ("turn", "g", ("items", ("out",)))), (word, ("g",), (("out",),), "=", 0),
                      (word, ("g",), (("items", ("out",)), ("out",)), "=", 0))

    def test_split_and_part(self):
        for at in ((), ("l", "each")):
            for word in ("some", "every"):
                for name, look in (("x", "ahead"), ("y", "behind")):
                    self.told((at, ("split", "t", "-", "x", "y")), (word, at + (name,), (("cut", 1),), "=", "a"),
                              (word, at + ("t",), ((look, "-"), ("cut", 1)), "=", "a"))
                for name, look in (("x", "parts"), ("y", "rest")):
                    self.told((at, ("part", "a", 4, "x", "y")), (word, at + (name,), (), ">", 1),
                              (word, at + ("a",), ((look, 4),), ">", 1))
            for name in ("x", "y"):
                self.told((at, ("split", "t", "-", "x", "y")), ("there", at + (name,)), ("there", at + ("t",)))
                self.told((at, ("part", "a", 4, "x", "y")), ("there", at + (name,)), ("there", at + ("a",)))
        # The elder name may be that of one or of two.
        self.told(((), ("split", "t", "-", "x", "t")), ("some", ("t",), (), "=", ""),
                  ("some", ("t",), (("behind", "-"),), "=", ""))
        self.told(((), ("part", "a", 4, "a", "x")), ("some", ("a",), (), "=", 0),
                  ("some", ("a",), (("parts", 4),), "=", 0))

    def test_put(self):
        put = ("put", "x", NUMBER, 4)
        for at in ((), ("b",), ("l", "each"), ("l", "each", "b")):
            field = at + ("x",)
            for looks, sign, told, passes in (
                ((), "=", 4, True), ((), "=", 5, False), ((), "<", 5, True), ((), "<", 4, False), ((), ">", 3, True),
                ((), ">", 4, False), ((("rest", 3),), "=", 1, True), ((("parts", 3),), ">", 1, False),
            ):
                self.told((at, put), ("some", field, looks, sign, told), ("there", at) if passes else FALSE)
                self.told((at, put), ("every", field, looks, sign, told),
                          ("there", ()) if passes else ("not", ("there", at)))
            self.told((at, put), ("there", field), ("there", at))

    def test_put_of_what_has_places_within(self):
        kind, at = ("list", record(n=NUMBER), 3), ("b",)
        path = at + ("x", "each", "n")
        for value, sign, told, some, every in (
            (items(rec(n=1), rec(n=2)), "=", 1, True, False), (items(rec(n=1), rec(n=1)), "=", 1, True, True),
            (items(rec(n=1), rec(n=2)), ">", 2, False, False), (items(), "=", 1, False, True),
        ):
            change = (at, ("put", "x", kind, value))
            self.told(change, ("some", path, (), sign, told), ("there", at) if some else FALSE)
            self.told(change, ("every", path, (), sign, told), ("there", ()) if every else ("not", ("there", at)))
            self.told(change, ("there", path), ("there", at) if value != items() else FALSE)
            self.told(change, ("there", path[:-1]), ("there", at) if value != items() else FALSE)
            self.told(change, ("there", path[:-2]), ("there", at))
        # Lists within lists on the way to the spots.
        at = ("l", "each")
        for value, there in ((items(), False), (items(3), True)):
            change = (at, ("put", "x", ("list", NUMBER, 3), value))
            self.told(change, ("there", at + ("x", "each")), ("there", at) if there else FALSE)
            self.told(change, ("some", at + ("x",), (("out",),), "=", 0), FALSE if there else ("there", at))
            every = ("not", ("there", at)) if there else ("there", ())
            self.told(change, ("every", at + ("x",), (("out",),), "=", 0), every)
            self.told(change, ("every", at + ("x", "each"), (), "=", 0), every)

    def test_fields_made_by_join_and_whole(self):
        shape = record(l=("list", record(p=("number", -3, 2), q=("number", 0, 2), t=TEXT, u=TEXT), 2))
        records = [some_value(shape, random.Random(seed)) for seed in range(5)]
        for piece, told in ((("join", "t", "u", "-", "x"), ""), (("whole", "p", "q", 3, "x", -9, 8), 0)):
            change, path = (("l", "each"), piece), ("l", "each", "x")
            self.told(change, ("there", path), None, shape)
            for word in ("some", "every"):
                self.told(change, (word, path, (), "=", told), None, shape)
            self.told(change, ("not", ("there", path)), None, shape)
            self.told(change, ("both", ("there", ()), ("there", path)), None, shape)
            self.told(change, ("there", ("l", "each")), ("there", ("l", "each")), shape, records)
        self.told((("l", "each"), ("join", "t", "u", "-", "t")), ("some", ("l", "each", "t"), (), "=", ""), None, shape)

    def test_drop(self):
        question = ("some", ("l", "each", "a"), (), "=", 1)
        self.told(((), ("drop", "a", 1)), question, question)
        self.told((("l", "each"), ("drop", "t", "")), question, question)

    def test_part_by_part(self):
        change = (("l", "each"), ("put", "x", NUMBER, 4))
        one, other = ("some", ("l", "each", "x"), (), "=", 4), ("every", ("l", "each", "x"), (), "=", 5)
        there, none = ("there", ("l", "each")), ("not", ("there", ("l", "each")))
        self.told(change, ("not", one), ("not", there))
        self.told(change, ("not", ("not", other)), ("not", ("not", none)))
        self.told(change, ("both", one, other), ("both", there, none))
        self.told(change, ("both", other, ("not", ("both", one, ("there", ())))),
                  ("both", none, ("not", ("both", there, ("there", ())))))

    def test_too_many_looks(self):
        turn, split = ((), ("turn", "t", ("cut", 2))), ((), ("split", "t", "-", "x", "y"))
        for count in range(9):
            looks = (("ahead", "."), ("cut", 2))[:count] + (("cut", 2),) * (count - 2)
            for change, name, look in ((turn, "t", ("cut", 2)), (split, "y", ("behind", "-"))):
                self.told(change, ("some", (name,), looks, "=", "a"),
                          ("some", ("t",), (look,) + looks, "=", "a") if count < 8 else None)
        # None is put ahead where none of the path is turned.
        eight = (("cut", 2),) * 8
        self.told(turn, ("some", ("u",), eight, "=", "a"), ("some", ("u",), eight, "=", "a"))
        self.told(((), ("name", "t", "x")), ("some", ("x",), eight, "=", "a"), ("some", ("t",), eight, "=", "a"))
        self.told(((), ("turn", "t", ("one", 1))), ("some", ("t", "each"), eight, "=", "a"),
                  ("some", ("t",), eight, "=", "a"))
        self.told(((), ("put", "x", TEXT, "a")), ("some", ("x",), eight, "=", "a"), ("there", ()))

    def test_too_many_within_it(self):
        change = ((), ("put", "x", NUMBER, 4))
        yes, no = ("some", ("x",), (), "=", 4), ("some", ("x",), (), "=", 5)
        for leaf, back, most in ((yes, ("there", ()), 19), (no, FALSE, 18)):
            for nots in (0, 1, 17, 18, 19):
                question, told = leaf, back
                for at in range(nots):
                    question, told = ("not", question), ("not", told)
                self.told(change, question, told if nots <= most else None)
        # Ten of them, nine both between.
        for bad in range(4):
            question, told = no if bad else yes, FALSE if bad else ("there", ())
            for at in range(1, 10):
                question = ("both", question, no if at < bad else yes)
                told = ("both", told, FALSE if at < bad else ("there", ()))
            self.told(change, question, told if bad <= 1 else None)


class EveryChangeTest(BackTest):
    def test_every_piece_at_spots_of_every_sort(self):
        counts = {"told": 0, "refused": 0, "other": 0}
        chance = random.Random(1)
        for sample in all_changes(most=4):
            records = sample.records[:12]
            there = [led(sample.change, sample.shape, one) for one in records]
            leaves = all_leaves(sample.behind, there, signs=chance.choice("=<>"))
            for question in leaves + [("not", ("both", *chance.choices(leaves, k=2))) for at in range(2)]:
                told = plain_back(question, sample.change, sample.shape)
                with self.subTest(change=sample.change, question=question):
                    if told is None:
                        counts["refused"] += 1
                        with self.assertRaises(BadQuestion):
                            question_back(question, sample.change, sample.shape)
                        continue
                    counts["told"] += 1
                    counts["other"] += told != question
                    self.assertEqual(question_back(question, sample.change, sample.shape), told)
                    self.assertEqual(plain_is_question(told, sample.shape), True)
                    for one, other in zip(records, there):
                        self.assertIs(plain_asked(told, sample.shape, one), plain_asked(question, sample.behind, other))
        self.assertGreater(min(counts.values()), 500)


class RefusedTest(BackTest):
    def test_as_shape_behind_ahead_of_the_question(self):
        for question in (("there", ()), ("there", ("q",)), (), ("some",)):
            for change, refusal in (
                ((("q",), ("drop", "a", 1)), BadPath), ((("a",), ("drop", "a", 1)), BadPath),
                (((), ("drop", "q", 1)), BadPiece),
                (((), ("drop", "a", 99)), BadPiece), (((), ()), BadPiece), (((), ("turn", "a", ("cut", 1))), BadTurn),
                (((), ("turn", "a", ())), BadTurn), ((("l", "each"), ("put", "x", deep(4), items())), BadKind),
            ):
                self.refused(refusal, question_back, question, change, SHAPE)

    def test_no_question_of_the_shape_behind(self):
        for change, questions in (
            # A question of the elder shape alone.
            (((), ("drop", "a", 1)), (("there", ("a",)), ("some", ("a",), (), "=", 1))),
            (((), ("name", "a", "z")), (("there", ("a",)), ("not", ("there", ("a",))))),
            (((), ("turn", "a", ("figures", 2))), (("some", ("a",), (), "=", 1),)),
            ((("l", "each"), ("sink", "a", "b")), (("every", ("l", "each", "a"), (), "=", 1),)),
            (((), ("put", "x", NUMBER, 4)), (("some", ("x",), (), "=", "4"), ("some", ("x", "each"), (), "=", 4),
                                            ("some", ("x",), (), "==", 4), ("some", ("x",), (("cut", 1),), "=", "4"))),
            (((), ("split", "t", "-", "x", "y")), (("some", ("x",), (), "=", 4), ("there", ("t",)),
                                                   ("there", ("x", "y")))),
        ):
            for question in questions:
                self.refused(BadQuestion, question_back, question, change, SHAPE)
        for question in ((), ("there",), ("there", "a"), ("there", 0), ("not", ()), (0,), (((),),),
                         ("both", ("there", ()))):
            self.refused(BadQuestion, question_back, question, ((), ("drop", "a", 1)), SHAPE)
        chain = ("there", ())
        for at in range(500):
            chain = ("not", chain)
        self.refused(BadQuestion, question_back, chain, ((), ("drop", "a", 1)), SHAPE)


class BetweenTest(BackTest):
    def plain_between(self, versions, start, goal, question):
        """Back by the changes over which a record of the goal would be led, the last one first; None where refused."""
        side = 1 if start < goal else -1
        for number in range(start, goal, side):
            low = min(number, number + side)
            change, shape = versions.change(low), versions.shape(low)
            if side > 0:
                question = plain_back(question, change_about(change, shape), versions.shape(low + 1))
            else:
                question = plain_back(question, change, shape)
            if question is None:
                return None
        return question

    def test_by_the_changes_between(self):
        versions = Versions(record(n=NUMBER, t=TEXT), [
            ((), ("turn", "n", ("scale", 10))), ((), ("put", "x", NUMBER, 4)), ((), ("name", "t", "s")),
            ((), ("split", "s", "-", "s", "u")),
        ])
        for start, goal, question, told in (
            (4, 0, ("some", ("u",), (("cut", 1),), "=", "a"),
             ("some", ("t",), (("behind", "-"), ("cut", 1)), "=", "a")),
            (4, 2, ("some", ("u",), (), "=", "a"), ("some", ("t",), (("behind", "-"),), "=", "a")),
            (4, 1, ("some", ("x",), (), ">", 3), ("there", ())),
            (4, 0, ("some", ("n",), (), ">", 30), ("some", ("n",), (("scale", 10),), ">", 30)),
            # Towards later versions by the changes about: x comes back by a put of nothing, n by a shrink.
            (0, 4, ("some", ("n",), (), "=", 3), ("some", ("n",), (("shrink", 10),), "=", 3)),
            (0, 3, ("some", ("t",), (), "=", "a"), ("some", ("s",), (), "=", "a")),
            (1, 3, ("both", ("there", ("n",)), ("not", ("some", ("n",), (), "<", 0))),
             ("both", ("there", ("n",)), ("not", ("some", ("n",), (), "<", 0)))),
            (2, 4, ("some", ("x",), (), "=", 4), ("some", ("x",), (), "=", 4)),
        ):
            self.assertEqual(question_between(versions, start, goal, question), told)
        # A join is the change about of the split.
        self.refused(BadQuestion, question_between, versions, 0, 4, ("some", ("t",), (), "=", "a"))
        for number in range(5):
            question = ("some", ("n",), (), "=", 1)
            self.assertEqual(question_between(versions, number, number, question), question)

    def test_of_each_record_what_it_tells_of_it_led(self):
        counts = {"told": 0, "refused": 0, "turned": 0}
        for versions in (ALL, CHURN):
            chance = random.Random(2)
            many = versions.many()
            for at in range(110):
                start, goal = chance.randrange(many), chance.randrange(many)
                records = [some_value(versions.shape(goal), chance) for more in range(4)]
                there = [led_between(versions, goal, start, one) for one in records]
                for question in chance.sample(all_leaves(versions.shape(start), there, signs="="), 6):
                    told = self.plain_between(versions, start, goal, question)
                    with self.subTest(start=start, goal=goal, question=question):
                        if told is None:
                            counts["refused"] += 1
                            self.refused(BadQuestion, question_between, versions, start, goal, question)
                            continue
                        counts["told"] += 1
                        counts["turned"] += told != question
                        self.assertEqual(question_between(versions, start, goal, question), told)
                        for one, other in zip(records, there):
                            self.assertIs(asked(told, versions.shape(goal), one),
                                          asked(question, versions.shape(start), other))
        self.assertGreater(min(counts.values()), 100)

    def test_refused(self):
        versions = Versions(FIRST, CHANGES[:3])
        for question in (("there", ()), ("there", ("q",)), (), ("some",)):
            for number in (-1, 4, 5, -4, 10 ** 30):
                for other in (0, 3, number):
                    self.refused(BadVersion, question_between, versions, number, other, question)
                    self.refused(BadVersion, question_between, versions, other, number, question)
        for question in (("there", ("q",)), (), ("some",), ("not", 0), ("there", ("r", "each", "n", "n"))):
            for start in range(4):
                for goal in range(4):
                    self.refused(BadQuestion, question_between, versions, start, goal, question)
        # The field is there at some of the versions alone.
        question = ("some", ("r", "each", "n"), (), "=", 0)
        self.refused(BadQuestion, question_between, versions, 3, 0, question)
        self.assertEqual(question_between(versions, 0, 3, question), ("there", ("r", "each")))


if __name__ == "__main__":
    unittest.main()
