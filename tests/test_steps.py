"""Records that fit, steps and their papers: [6.1], [6.2], [6.3]."""

import unittest

from oldhands.changes import change_about, shape_behind
from oldhands.leading import led
from oldhands.steps import fit, step, step_paper
from oldhands.values import is_of
from samples import items, rec, record, rows
from ways import WAYS, all_changes, plain_fit, plain_step

SAMPLES = all_changes()
NUMBER = ("number", -9, 9)
TEXT = ("text", 3)
CHOICE = ("choice", ("red", "blue"))


def pairs(sample, most=2):
    """Records of a sample with others of the shape behind."""
    for at, one in enumerate(sample.records):
        others = [sample.others[(at * 5 + more) % len(sample.others)] for more in range(most)]
        for other in others + [led(sample.change, sample.shape, one)]:
            yield one, other


class FitTest(unittest.TestCase):
    def told(self, change, shape, one, other, expected):
        with self.subTest(change=change, one=one, other=other):
            self.assertIs(is_of(one, shape), True)
            self.assertIs(is_of(other, shape_behind(change, shape)), True)
            for again in range(2):
                self.assertIs(fit(change, shape, one, other), expected)
            self.assertIs(plain_fit(change, shape, one, other), expected)

    def test_what_the_old_ones_are_led_to(self):
        change, shape = ((), ("turn", "n", ("bounds", 0, 5))), record(n=NUMBER)
        for old, new in ((-9, 0), (0, 0), (3, 3), (5, 5), (7, 5), (9, 5)):
            self.told(change, shape, rec(n=old), rec(n=new), True)

    def test_what_the_new_ones_are_led_back_to(self):
        change, shape = ((), ("turn", "n", ("bounds", -20, 20))), record(n=NUMBER)
        for old, new in ((9, 10), (9, 20), (-9, -20), (9, 9), (-9, -9)):
            self.told(change, shape, rec(n=old), rec(n=new), True)
        scaled = ((), ("turn", "n", ("scale", 10)))
        for old, new in ((3, 30), (3, 39), (0, 9), (-1, -10), (-1, -1), (-9, -81)):
            self.told(scaled, shape, rec(n=old), rec(n=new), True)

    def test_neither(self):
        shape = record(n=NUMBER)
        for turn, old, new in ((("bounds", 0, 5), 3, 4), (("bounds", 0, 5), -1, 5), (("bounds", 0, 5), 6, 0),
                               (("bounds", -20, 20), 8, 10), (("bounds", -20, 20), 9, -20), (("scale", 10), 3, 40),
                               (("scale", 10), 3, 29), (("scale", 10), -1, 0), (("figures", 5), 1, "2"),
                               (("figures", 5), 1, "x")):
            self.told(((), ("turn", "n", turn)), shape, rec(n=old), rec(n=new), False)

    def test_figures(self):
        # What are no figures within is led back to the least number, and so fits it.
        change, shape = ((), ("turn", "n", ("figures", 3))), record(n=("number", 2, 12))
        for old, new, expected in ((2, "2", True), (2, "", True), (2, "x y", True), (2, "13", True), (2, "02", True),
                                   (2, "3", False), (3, "", False), (3, "03", False), (12, "12", True)):
            self.told(change, shape, rec(n=old), rec(n=new), expected)

    def test_any_new_value_of_put(self):
        change, shape = ((), ("put", "x", NUMBER, 3)), record(c=CHOICE)
        for number in range(-9, 10):
            self.told(change, shape, rec(c="red"), rec(c="red", x=number), True)
            self.told(change, shape, rec(c="red"), rec(c="blue", x=number), False)

    def test_any_old_value_of_drop(self):
        change, shape = ((), ("drop", "x", 3)), record(c=CHOICE, x=NUMBER)
        for number in range(-9, 10):
            self.told(change, shape, rec(c="red", x=number), rec(c="red"), True)
            self.told(change, shape, rec(c="red", x=number), rec(c="blue"), False)

    def test_names_boxes_and_words(self):
        shape = record(c=CHOICE, m=record(b=NUMBER))
        for piece, other, wrong in (
            (("name", "c", "d"), rec(d="red", m=rec(b=1)), (rec(d="blue", m=rec(b=1)), rec(d="red", m=rec(b=2)))),
            (("sink", "c", "m"), rec(m=rec(b=1, c="red")), (rec(m=rec(b=1, c="blue")), rec(m=rec(b=2, c="red")))),
            (("lift", "m", "b"), rec(b=1, c="red", m=rec()), (rec(b=2, c="red", m=rec()), rec(b=1, c="blue", m=rec()))),
            (("turn", "c", ("words", ("x", "x"), (("x", "blue"),))), rec(c="x", m=rec(b=1)), (rec(c="x", m=rec(b=0)),)),
        ):
            self.told(((), piece), shape, rec(c="red", m=rec(b=1)), other, True)
            for one in wrong:
                self.told(((), piece), shape, rec(c="red", m=rec(b=1)), one, False)

    def test_two_new_values_fit_together_or_not_at_all(self):
        split, shape = ((), ("split", "f", "-", "x", "y")), record(f=TEXT)
        for old, one, two, expected in (("a-b", "a", "b", True), ("a-b", "a", "", False), ("a-b", "a", "c", False),
                                        ("a-b", "b", "b", False), ("a-b", "", "b", False), ("a-b", "", "", False),
                                        # What is led back is cut to three signs.
                                        ("a-b", "a", "bc", True), ("a-b", "a", "b-", True), ("a-b", "ab", "b", False),
                                        ("ab", "ab", "", True), ("ab", "ab", "c", True), ("ab", "a", "b", False),
                                        ("a-", "a", "", True), ("a-", "a-", "", False), ("", "-", "", True)):
            self.told(split, shape, rec(f=old), rec(x=one, y=two), expected)
        part, shape = ((), ("part", "n", 3, "x", "y")), record(n=("number", -4, 4))
        for old, one, two, expected in ((4, 1, 1, True), (4, 1, 2, True), (4, 1, 0, False), (4, 0, 1, False),
                                        (-4, -2, 2, True), (-4, -2, 0, True), (-4, -2, 1, True), (-3, -1, 0, True),
                                        (-3, -1, 1, False), (-3, -2, 0, False), (0, 0, 0, True), (0, 0, 1, False)):
            self.told(part, shape, rec(n=old), rec(x=one, y=two), expected)

    def test_two_old_values_fit_together_or_not_at_all(self):
        join, shape = ((), ("join", "x", "y", "-", "f")), record(x=TEXT, y=TEXT)
        for one, two, new, expected in (("a", "b", "a-b", True), ("a", "bc", "a-b", True), ("a", "b", "a-c", False),
                                        ("a", "b", "a", False), ("a", "", "a-", True), ("a", "", "a", True),
                                        ("a", "", "a-b", False), ("", "", "-", True), ("", "-", "--", True)):
            self.told(join, shape, rec(x=one, y=two), rec(f=new), expected)
        whole, shape = ((), ("whole", "x", "y", 3, "n", -4, 4)), record(x=("number", -2, 1), y=("number", 0, 2))
        for one, two, new, expected in ((1, 1, 4, True), (1, 2, 4, True), (1, 0, 4, False), (1, 2, 3, False),
                                        (-2, 0, -4, True), (-2, 2, -4, True), (-2, 2, -3, False), (-1, 0, -3, True)):
            self.told(whole, shape, rec(x=one, y=two), rec(n=new), expected)

    def test_spots_that_are_not_the_same(self):
        change, shape = (("l", "each"), ("put", "x", NUMBER, 0)), record(l=("list", record(c=CHOICE), 3))
        for ours in range(4):
            for theirs in range(4):
                self.told(change, shape, rec(l=items(*[rec(c="red")] * ours)),
                          rec(l=items(*[rec(c="red", x=5)] * theirs)), ours == theirs)
        change = (("r", "each"), ("put", "x", NUMBER, 0))
        shape = record(r=("rows", "k", record(k=TEXT), 3))
        for ours, theirs in (("ab", "ab"), ("ab", "ac"), ("ab", "a"), ("a", "ab"), ("ab", "b"), ("", "a"), ("", "")):
            self.told(change, shape, rec(r=rows(*[rec(k=key) for key in ours])),
                      rec(r=rows(*[rec(k=key, x=1) for key in theirs])), ours == theirs)
        change, shape = (("l", "each", "each"), ("put", "x", NUMBER, 0)), record(l=("list", ("list", record(), 2), 2))
        for ours, theirs in (((1, 1), (1, 1)), ((1, 1), (2, 0)), ((1, 1), (0, 2)), ((2,), (2, 0)), ((), (0,)),
                             ((0,), (0, 0)), ((2, 2), (2, 2))):
            self.told(change, shape, rec(l=items(*[items(*[rec()] * many) for many in ours])),
                      rec(l=items(*[items(*[rec(x=2)] * many) for many in theirs])), ours == theirs)

    def test_values_outside(self):
        shape = record(l=("list", record(c=CHOICE, n=NUMBER), 3), z=NUMBER)
        change = (("l", "each"), ("drop", "n", 0))
        one = rec(l=items(rec(c="red", n=1), rec(c="blue", n=2)), z=4)
        self.told(change, shape, one, rec(l=items(rec(c="red"), rec(c="blue")), z=4), True)
        self.told(change, shape, one, rec(l=items(rec(c="red"), rec(c="blue")), z=5), False)
        self.told(change, shape, one, rec(l=items(rec(c="blue"), rec(c="blue")), z=4), False)
        self.told(change, shape, one, rec(l=items(rec(c="red"), rec(c="red")), z=4), False)
        self.told(change, shape, one, rec(l=items(rec(c="blue"), rec(c="red")), z=4), False)

    def test_each_spot_must_fit(self):
        shape = record(l=("list", record(n=NUMBER), 3))
        change = (("l", "each"), ("turn", "n", ("scale", 10)))
        one = rec(l=items(rec(n=1), rec(n=2), rec(n=3)))
        for numbers, expected in (((10, 20, 30), True), ((19, 25, 31), True), ((20, 20, 30), False),
                                  ((10, 30, 30), False), ((10, 20, 40), False), ((30, 20, 10), False)):
            self.told(change, shape, one, rec(l=items(*[rec(n=number) for number in numbers])), expected)

    def test_no_spots(self):
        shape = record(l=("list", record(n=NUMBER), 3), z=NUMBER)
        change = (("l", "each"), ("turn", "n", ("scale", 10)))
        self.told(change, shape, rec(l=items(), z=1), rec(l=items(), z=1), True)
        self.told(change, shape, rec(l=items(), z=1), rec(l=items(), z=2), False)

    def test_of_all_pieces_and_turns(self):
        told = {True: 0, False: 0}
        for sample in SAMPLES:
            for one, other in pairs(sample):
                with self.subTest(change=sample.change, one=one, other=other):
                    expected = plain_fit(sample.change, sample.shape, one, other)
                    self.assertIs(fit(sample.change, sample.shape, one, other), expected)
                    # Fitting is the same seen from behind.
                    self.assertIs(fit(sample.about, sample.behind, other, one), expected)
                    told[expected] += 1
        self.assertGreater(min(told.values()), 1000)


class StepTest(unittest.TestCase):
    def told(self, change, shape, one, memory, expected, words):
        with self.subTest(change=change, one=one, memory=memory):
            behind = shape_behind(change, shape)
            self.assertIs(is_of(one, shape) and is_of(memory, behind) and is_of(expected, behind), True)
            for again in range(2):
                self.assertEqual(step(change, shape, one, memory), expected)
                paper = step_paper(change, shape, one, memory)
                self.assertIsInstance(paper, list)
                self.assertEqual(paper, words)
                paper.clear()
            self.assertIs(fit(change, shape, one, expected), True)
            self.assertEqual(step(change, shape, one, expected), expected)

    def test_kept_and_made_at_one_spot(self):
        change, shape = ((), ("turn", "n", ("scale", 10))), record(c=CHOICE, n=NUMBER)
        self.told(change, shape, rec(c="red", n=3), rec(c="red", n=37), rec(c="red", n=37), [((), "kept")])
        self.told(change, shape, rec(c="red", n=3), rec(c="red", n=30), rec(c="red", n=30), [((), "kept")])
        self.told(change, shape, rec(c="red", n=3), rec(c="red", n=47), rec(c="red", n=30), [((), "made")])
        # What is outside is the record's.
        self.told(change, shape, rec(c="red", n=3), rec(c="blue", n=37), rec(c="red", n=37), [((), "kept")])
        self.told(change, shape, rec(c="red", n=3), rec(c="blue", n=40), rec(c="red", n=30), [((), "made")])

    def test_items_of_lists_by_their_number(self):
        shape = record(l=("list", record(c=CHOICE, n=NUMBER), 4), z=NUMBER)
        change = (("l", "each"), ("turn", "n", ("scale", 10)))

        def ours(*some):
            return rec(l=items(*[rec(c="red", n=number) for number in some]), z=1)

        def theirs(*some, c="red", z=1):
            return rec(l=items(*[rec(c=c, n=number) for number in some]), z=z)

        for one, memory, expected, words in (
            ((1, 2, 3), (15, 26, 37), (15, 26, 37), "kept kept kept"),
            ((1, 2, 3), (37, 26, 15), (10, 26, 30), "made kept made"),
            ((1, 2, 3), (15,), (15, 20, 30), "kept made made"),
            ((1, 2, 3), (), (10, 20, 30), "made made made"),
            ((1,), (15, 26, 37, 48), (15,), "kept"),
            ((2,), (15, 26), (20,), "made"),
            ((), (15, 26), (), ""),
            # The first item was taken out: each item is looked at beside what stood at its number.
            ((2, 3), (15, 26, 37), (20, 30), "made made"),
            ((1, 1), (15, 15), (15, 15), "kept kept"),
            ((1, 1), (10, 10), (10, 10), "kept kept"),
        ):
            paper = [(("l", at), word) for at, word in enumerate(words.split())]
            self.told(change, shape, ours(*one), theirs(*memory), theirs(*expected), paper)
            self.told(change, shape, ours(*one), theirs(*memory, c="blue", z=-3), theirs(*expected), paper)

    def test_items_of_rows_by_their_key(self):
        for key_kind, keys in ((TEXT, ("", "10", "9", "z")), (NUMBER, (-9, -1, 2, 9))):
            shape = record(r=("rows", "k", record(k=key_kind, n=NUMBER), 4))
            change = (("r", "each"), ("turn", "n", ("scale", 10)))
            a, b, c, d = keys

            def table(some):
                return rec(r=rows(*[rec(k=key, n=number) for key, number in some.items()]))

            for one, memory, expected, words in (
                ({a: 1, b: 2}, {a: 15, b: 26}, {a: 15, b: 26}, ("kept", "kept")),
                ({b: 2, d: 3}, {a: 15, b: 26, c: 3, d: 37}, {b: 26, d: 37}, ("kept", "kept")),
                ({a: 1, b: 2, c: 3}, {b: 26}, {a: 10, b: 26, c: 30}, ("made", "kept", "made")),
                ({a: 1, b: 2, c: 3}, {a: 26, c: 37, d: 15}, {a: 10, b: 20, c: 37}, ("made", "made", "kept")),
                ({a: 1}, {b: 15}, {a: 10}, ("made",)),
                ({a: 1}, {}, {a: 10}, ("made",)),
                ({}, {a: 15}, {}, ()),
            ):
                self.told(change, shape, table(one), table(memory), table(expected),
                          [(("r", key), word) for key, word in zip(one, words)])

    def test_one_within_another(self):
        shape = record(l=("list", ("rows", "k", record(k=TEXT, n=NUMBER), 3), 3))
        change = (("l", "each", "each"), ("drop", "n", 0))
        about, behind = change_about(change, shape), shape_behind(change, shape)
        one = rec(l=items(rows(rec(k="a"), rec(k="b")), rows(), rows(rec(k="b"))))
        memory = rec(l=items(rows(rec(k="b", n=1)), rows(rec(k="a", n=2)), rows(rec(k="a", n=3), rec(k="b", n=4))))
        expected = rec(l=items(rows(rec(k="a", n=0), rec(k="b", n=1)), rows(), rows(rec(k="b", n=4))))
        self.told(about, behind, one, memory, expected,
                  [(("l", 0, "a"), "made"), (("l", 0, "b"), "kept"), (("l", 2, "b"), "kept")])

    def test_put_keeps_and_drop_has_nothing_to_keep(self):
        shape = record(l=("list", record(c=CHOICE), 3))
        change = (("l", "each"), ("put", "x", NUMBER, 3))
        self.told(change, shape, rec(l=items(rec(c="red"), rec(c="blue"))), rec(l=items(rec(c="blue", x=9))),
                  rec(l=items(rec(c="red", x=9), rec(c="blue", x=3))), [(("l", 0), "kept"), (("l", 1), "made")])
        shape, change = shape_behind(change, shape), change_about(change, shape)
        self.told(change, shape, rec(l=items(rec(c="red", x=1), rec(c="blue", x=2))), rec(l=items(rec(c="blue"))),
                  rec(l=items(rec(c="red"), rec(c="blue"))), [(("l", 0), "kept"), (("l", 1), "made")])

    def test_boxes(self):
        shape = record(a=NUMBER, m=record(b=NUMBER))
        self.told(((), ("sink", "a", "m")), shape, rec(a=1, m=rec(b=2)), rec(m=rec(a=1, b=9)), rec(m=rec(a=1, b=2)),
                  [((), "kept")])
        self.told(((), ("sink", "a", "m")), shape, rec(a=1, m=rec(b=2)), rec(m=rec(a=3, b=2)), rec(m=rec(a=1, b=2)),
                  [((), "made")])
        self.told(((), ("lift", "m", "b")), shape, rec(a=1, m=rec(b=2)), rec(a=4, b=2, m=rec()),
                  rec(a=1, b=2, m=rec()), [((), "kept")])
        self.told(((), ("lift", "m", "b")), shape, rec(a=1, m=rec(b=2)), rec(a=1, b=3, m=rec()),
                  rec(a=1, b=2, m=rec()), [((), "made")])

    def test_two_new_values_are_kept_or_made_together(self):
        change, shape = ((), ("split", "f", "-", "x", "y")), record(f=TEXT)
        self.told(change, shape, rec(f="a-b"), rec(x="a", y="bc"), rec(x="a", y="bc"), [((), "kept")])
        self.told(change, shape, rec(f="a-b"), rec(x="a", y="c"), rec(x="a", y="b"), [((), "made")])
        self.told(change, shape, rec(f="a-b"), rec(x="q", y="b"), rec(x="a", y="b"), [((), "made")])

    def test_of_all_pieces_and_turns(self):
        many = {"kept": 0, "made": 0}
        for sample in SAMPLES:
            change, shape = sample.change, sample.shape
            for one, memory in pairs(sample):
                with self.subTest(change=change, one=one, memory=memory):
                    expected, paper = plain_step(change, shape, one, memory)
                    told = step(change, shape, one, memory)
                    self.assertEqual(told, expected)
                    self.assertEqual(step_paper(change, shape, one, memory), paper)
                    self.assertIs(is_of(told, sample.behind), True)
                    self.assertIs(plain_fit(change, shape, one, told), True)
                    if plain_fit(change, shape, one, memory):
                        self.assertEqual(told, memory)
                    for where, word in paper:
                        many[word] += 1
        self.assertGreater(min(many.values()), 1000)

    def test_back_of_all_pieces_and_turns(self):
        for sample in SAMPLES:
            for memory, one in pairs(sample, 1):
                with self.subTest(change=sample.about, one=one, memory=memory):
                    expected, paper = plain_step(sample.about, sample.behind, one, memory)
                    self.assertEqual(step(sample.about, sample.behind, one, memory), expected)
                    self.assertEqual(step_paper(sample.about, sample.behind, one, memory), paper)

    def test_beside_what_it_is_led_to(self):
        for sample in SAMPLES:
            for one in sample.records:
                there = led(sample.change, sample.shape, one)
                self.assertEqual(step(sample.change, sample.shape, one, there), there)
                self.assertEqual(step(sample.about, sample.behind, there, one), one)

    def test_every_way_is_looked_at(self):
        self.assertEqual({sample.name for sample in SAMPLES}, set(WAYS))


if __name__ == "__main__":
    unittest.main()
