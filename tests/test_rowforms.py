"""Short rows, the steps that lead to them, and the judge of the steps: [12.1], [12.5], with [0.2], [0.3], [0.4]."""

import random
import unittest

from oldhands.errors import BadKind, BadPath, BadPiece, BadTurn, Full
from oldhands.rowforms import is_short, row_shows, shortened
from chains import CHANGES, CHURN, FIRST
from rowing import BOXED, WORDS, drawn_row, is_row, plain_is_short, plain_walked, unlike
from samples import deep, letters, rec, record

NUMBER = ("number", 0, 9)
TEXT = ("text", 3)
SHAPE = record(a=NUMBER, b=TEXT, c=NUMBER, m=record())


class RowTest(unittest.TestCase):
    def refused(self, refusal, do, *arguments):
        with self.subTest(do=do.__name__, arguments=arguments), self.assertRaises(refusal) as caught:
            do(*arguments)
        self.assertIs(type(caught.exception), refusal)

    def shortens(self, shape, row, many=None):
        """What is promised of the short row and its steps; how many changes it has is told where all have so many."""
        for handed in (list(row), tuple(row), list(row)):
            told = shortened(shape, handed)
            self.assertEqual(list(handed), list(row))
            self.assertIs(type(told), tuple)
            steps, short = told
            self.assertIs(type(steps), list)
            self.assertIs(type(short), list)
            with self.subTest(row=row, steps=steps):
                self.assertTrue(all(type(step) is tuple and len(step) == 2 for step in steps))
                self.assertEqual(plain_walked(shape, row, steps), short)
                self.assertTrue(plain_is_short(shape, short))
                self.assertIs(is_short(shape, short), True)
                self.assertIs(row_shows(shape, handed, steps, short), True)
                self.assertIsNone(unlike(shape, list(row), short, random.Random(len(row))))
                if many is not None:
                    self.assertEqual(len(short), many)
            self.assertEqual(shortened(shape, handed), told)
        return steps, short


class ShortTest(RowTest):
    def tells(self, shape, row, expected):
        self.assertTrue(is_row(shape, row), row)
        for handed in (list(row), tuple(row), list(row)):
            with self.subTest(row=row):
                self.assertIs(is_short(shape, handed), expected)
                self.assertEqual(list(handed), list(row))
        self.assertIs(plain_is_short(shape, list(row)), expected)
        self.shortens(shape, row, len(row) if expected else None)
        self.assertIs(shortened(shape, row)[0] == [], expected)

    def test_none_and_one(self):
        self.tells(SHAPE, [], True)
        self.tells(record(), [], True)
        self.tells(SHAPE, [((), ("name", "a", "a"))], True)
        self.tells(SHAPE, [((), ("put", "z", NUMBER, 1))], True)
        self.assertEqual(shortened(SHAPE, []), ([], []))
        self.assertEqual(shortened(SHAPE, [((), ("drop", "a", 0))]), ([], [((), ("drop", "a", 0))]))

    def test_neighbours(self):
        put, drop, name = ((), ("put", "z", NUMBER, 1)), ((), ("drop", "z", 2)), ((), ("name", "z", "y"))
        self.tells(SHAPE, [put, drop], False)
        self.tells(SHAPE, [put, name], False)
        self.tells(SHAPE, [put, ((), ("sink", "z", "m"))], True)
        self.tells(SHAPE, [((), ("drop", "a", 1)), ((), ("put", "a", NUMBER, 1))], True)
        self.tells(SHAPE, [((), ("turn", "a", ("scale", 2))), ((), ("turn", "a", ("shrink", 2)))], False)
        self.tells(SHAPE, [((), ("turn", "a", ("shrink", 9))), ((), ("turn", "a", ("scale", 9)))], True)
        self.tells(SHAPE, [((), ("turn", "a", ("scale", 2))), ((), ("turn", "a", ("scale", 501)))], True)

    def test_brought_ahead_by_exchanges(self):
        put, drop = ((), ("put", "z", NUMBER, 1)), ((), ("drop", "z", 2))
        between = [((), ("turn", "a", ("scale", 2))), ((), ("turn", "b", ("cut", 2))), (("m",), ("put", "z", TEXT, "")),
                   ((), ("turn", "c", ("figures", 4)))]
        for many in range(5):
            row = [put] + between[:many] + [drop]
            self.tells(SHAPE, row, False)
            self.assertEqual(shortened(SHAPE, row)[1], between[:many])
            self.assertEqual(shortened(SHAPE, row)[0][-1][0], "out")
            self.assertEqual(len(shortened(SHAPE, row)[0]), many + 1)
            row = between[:many] + [put] + between[many:] + [((), ("name", "z", "y"))]
            self.tells(SHAPE, row, False)
            self.assertEqual(len(shortened(SHAPE, row)[1]), 5)

    def test_held_up_by_one_that_it_meets(self):
        put, drop = ((), ("put", "z", NUMBER, 1)), ((), ("drop", "z", 2))
        # The name that stands between goes with the put, but the drop alone can't pass by the part.
        held = [((), ("part", "z", 3, "z", "y")), ((), ("whole", "z", "y", 3, "z", 0, 9))]
        self.tells(SHAPE, [put] + held + [drop], False)
        self.tells(SHAPE, [put, held[0], ((), ("drop", "z", 0))], True)
        self.tells(SHAPE, [((), ("name", "a", "z")), ((), ("sink", "z", "m")), (("m",), ("drop", "z", 0))], True)
        self.tells(SHAPE, [((), ("turn", "a", ("scale", 2))), ((), ("name", "a", "z")),
                           ((), ("turn", "z", ("scale", 2)))], True)

    def test_held_up_by_a_shape_that_is_too_great(self):
        five = ("number", 5, 5)
        row = [((), ("drop", "a", 5)), ((), ("put", "y", NUMBER, 1)), ((), ("drop", "b", 0)),
               ((), ("put", "a", five, 5))]
        for many, expected in ((8, True), (7, False)):
            # The last change leads back what the first one led, but ahead of b's drop there is no room for both puts.
            fields = dict(letters(many)[1]) | {"a": five}
            self.tells(record(**fields), row, expected)
            deeper = [(("l", "each"), piece) for path, piece in row]
            self.tells(record(l=("list", record(**fields), 2)), deeper, expected)

    def test_the_later_one_alone_is_brought(self):
        # A change that could be brought to one behind it only is not what makes a row not short.
        row = [((), ("name", "a", "z")), ((), ("part", "z", 3, "y", "x")), ((), ("name", "y", "w"))]
        self.tells(SHAPE, row, True)
        row = [((), ("put", "z", NUMBER, 1)), ((), ("part", "a", 3, "y", "x")), ((), ("name", "z", "w"))]
        self.tells(SHAPE, row, False)

    def test_drawn_rows(self):
        told = []
        for seed in range(80):
            chance = random.Random(seed)
            row = drawn_row(BOXED, chance.randint(0, 9), chance)
            told.append(is_short(BOXED, row))
            with self.subTest(seed=seed):
                self.assertIs(told[-1], plain_is_short(BOXED, row))
                self.shortens(BOXED, row)
        self.assertGreater(told.count(True), 10)
        self.assertGreater(told.count(False), 10)


class ShortenedTest(RowTest):
    def test_one_after_the_other(self):
        pairs = list(zip("azyxwvutsr", "zyxwvutsrq"))
        there = [((), ("name", one, two)) for one, two in pairs]
        back = [((), ("name", two, one)) for one, two in reversed(pairs)]
        self.assertEqual(self.shortens(SHAPE, there)[1], [((), ("name", "a", "q"))])
        self.assertEqual(self.shortens(SHAPE, there + back)[1], [])

    def test_there_and_back(self):
        row = [((), ("put", "z", NUMBER, 1)), ((), ("turn", "z", ("scale", 3))), ((), ("sink", "a", "m")),
               ((), ("name", "z", "y")), ((), ("lift", "m", "a")), ((), ("turn", "y", ("figures", 3))),
               ((), ("drop", "y", "5"))]
        self.assertEqual(self.shortens(SHAPE, row)[1], [])

    def test_rows_of_twenty(self):
        self.shortens(FIRST, CHANGES)
        self.shortens(CHURN.shape(0), [CHURN.change(number) for number in range(CHURN.many() - 1)])
        row = [((), ("turn", "ac"[at % 2], ("bounds", 0, 99 - at))) for at in range(20)]
        steps, short = self.shortens(SHAPE, row, 2)
        turns = [("bounds", 0, 81), ("bounds", 0, 80)]
        self.assertEqual(sorted(short), [((), ("turn", name, turn)) for name, turn in zip("ac", turns)])

    def test_the_askers_own(self):
        row = [((), ("put", "z", NUMBER, 1)), ((), ("turn", "a", ("scale", 2))), ((), ("drop", "z", 1))]
        steps, short = shortened(SHAPE, row)
        before = (list(steps), list(short))
        steps.clear()
        short.clear()
        self.assertEqual(shortened(SHAPE, row), before)
        self.assertEqual(len(row), 3)
        short_row = [((), ("drop", "a", 0))]
        shortened(SHAPE, short_row)[1].clear()
        self.assertEqual(len(short_row), 1)


class ShowsTest(RowTest):
    ROW = (((), ("put", "z", NUMBER, 1)), ((), ("turn", "a", ("scale", 2))), ((), ("name", "z", "y")))
    STEPS = (("swap", 0), ("one", 1))
    OUTCOME = (((), ("turn", "a", ("scale", 2))), ((), ("put", "y", NUMBER, 1)))

    def tells(self, row, steps, outcome, expected):
        for form in (list, tuple):
            with self.subTest(row=row, steps=steps, outcome=outcome):
                handed = form(row), form(steps), form(outcome)
                self.assertIs(row_shows(SHAPE, *handed), expected)
                self.assertEqual(handed, (form(row), form(steps), form(outcome)))

    def test_shown(self):
        self.tells(self.ROW, self.STEPS, self.OUTCOME, True)
        self.tells(self.ROW, [], self.ROW, True)
        self.tells([], [], [], True)
        # Steps need not shorten a row, nor lead to a short one.
        self.tells(self.ROW, [("swap", 0)], (self.ROW[1], self.ROW[0], self.ROW[2]), True)
        self.tells(self.ROW, [("swap", 0), ("swap", 0)], self.ROW, True)

    def test_another_outcome(self):
        for outcome in ((), self.OUTCOME[:1], self.OUTCOME[1:], self.OUTCOME[::-1], self.OUTCOME + self.OUTCOME[:1],
                        self.ROW, (self.OUTCOME[0], ((), ("put", "y", NUMBER, 2))),
                        (self.OUTCOME[0], (("m",), ("put", "y", NUMBER, 1))), (self.OUTCOME[0], ((), ())),
                        (((), ("none",)), self.OUTCOME[1]), (self.OUTCOME[0], ((), ("put", "y", ("number", 0, 8), 1)))):
            self.tells(self.ROW, self.STEPS, outcome, False)
        # Alike rows are not the same.
        self.tells(self.ROW, [("swap", 0)], self.ROW, False)

    def test_steps_that_cannot_be_done(self):
        for steps in ([("swap", 1)], [("one", 0)], [("out", 0)], [("out", 1)], [("swap", 2)], [("swap", -1)],
                      [("swap", 3)],
                      [("none", 0)], [("", 0)], [("swap", 10 ** 30)], [("swap", 0), ("one", 0)],
                      [("swap", 0), ("one", 2)],
                      [("swap", 0), ("swap", 1)]):
            self.tells(self.ROW, steps, self.ROW, False)
            self.tells(self.ROW, steps, self.OUTCOME, False)
        for steps in (self.STEPS[:1], self.STEPS[1:], self.STEPS[::-1], self.STEPS + (("swap", 1),),
                      self.STEPS + (("swap", 0),)):
            self.tells(self.ROW, steps, self.OUTCOME, False)
        self.tells([], [("swap", 0)], [], False)
        self.tells(self.ROW[:1], [("swap", 0)], self.ROW[:1], False)

    def test_drawn_steps(self):
        told = []
        for seed in range(60):
            chance = random.Random(seed)
            row = drawn_row(BOXED, chance.randint(3, 7), chance)
            steps, here = [], row
            while len(steps) < 4:
                some = [(word, at) for word in WORDS for at in range(-1, len(row) + 1)]
                good = [step for step in some if plain_walked(BOXED, here, [step]) is not None]
                steps.append(chance.choice(good if good and chance.random() < 0.9 else some))
                here = plain_walked(BOXED, row, steps)
                if here is None:
                    break
            for outcome in (row, row[:-1], row[1:], here or [], (here or [])[1:]):
                expected = here is not None and here == outcome
                told.append(expected)
                with self.subTest(seed=seed, steps=steps, outcome=outcome):
                    self.assertIs(row_shows(BOXED, row, steps, outcome), expected)
        self.assertGreater(told.count(True), 20)


class RefusedTest(RowTest):
    def test_as_versions(self):
        name = ((), ("name", "a", "z"))
        inner = record(y=record(z=record(w=record())))
        for refusal, row in (
            (BadPath, [(("z",), ("drop", "a", 0))]), (BadPath, [name, (("a",), ("drop", "a", 0))]),
            (BadPiece, [((), ("drop", "z", 0))]), (BadPiece, [name, name]), (BadPiece, [((), ())]),
            (BadTurn, [name, ((), ("turn", "z", ("cut", 1)))]),
            (BadKind, [((), ("put", "x", inner, rec(y=rec(z=rec(w=rec()))))),
                       (("x", "y", "z", "w"), ("put", "v", NUMBER, 0))]),
            (Full, [name, ((), ("name", "z", "a"))] * 10 + [name]),
        ):
            for form in (list, tuple):
                self.refused(refusal, is_short, SHAPE, form(row))
                self.refused(refusal, shortened, SHAPE, form(row))
                for steps in ([], [("swap", 0)], [("none", 99)]):
                    for outcome in ([], row):
                        self.refused(refusal, row_shows, SHAPE, form(row), steps, outcome)
        for shape in (NUMBER, ("list", SHAPE, 2), ("record",), (), deep(6)):
            for row in ([], [name], [((), ())]):
                self.refused(BadKind, is_short, shape, row)
                self.refused(BadKind, shortened, shape, row)
                self.refused(BadKind, row_shows, shape, row, [], row)


if __name__ == "__main__":
    unittest.main()
