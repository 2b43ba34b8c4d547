"""The judge of steps: [6.4]."""

import itertools
import unittest

from oldhands.changes import change_about, shape_behind
from oldhands.judge import shows_step
from oldhands.leading import led
from oldhands.steps import step, step_paper
from samples import all_values, items, places, put_at, rec, record, rows
from ways import all_changes

SAMPLES = all_changes(4)
NUMBER = ("number", -9, 9)
CHOICE = ("choice", ("red", "blue"))
LINE = record(c=CHOICE, n=NUMBER)

SHAPE = record(l=("list", LINE, 4), z=NUMBER)
CHANGE = (("l", "each"), ("turn", "n", ("scale", 10)))
RECORD = rec(l=items(rec(c="red", n=1), rec(c="blue", n=2), rec(c="red", n=2)), z=5)
MEMORY = rec(l=items(rec(c="blue", n=17), rec(c="red", n=35)), z=-5)
OUTCOME = rec(l=items(rec(c="red", n=17), rec(c="blue", n=20), rec(c="red", n=20)), z=5)
PAPER = [(("l", 0), "kept"), (("l", 1), "made"), (("l", 2), "made")]

KEYED = record(r=("rows", "k", record(k=NUMBER, n=NUMBER), 4), z=NUMBER)
DROP = (("r", "each"), ("drop", "n", 0))


def other_words(paper):
    """The papers that have one word another."""
    for at, (where, word) in enumerate(paper):
        for other in ("kept", "made", "", "keep", "Kept", "kept "):
            if other != word:
                yield paper[:at] + [(where, other)] + paper[at + 1:]


def other_spots(paper):
    """The papers with a spot too few, too many, twice, or in another order."""
    for at, pair in enumerate(paper):
        yield paper[:at] + paper[at + 1:]
        yield paper[:at] + [pair] + paper[at:]
        yield paper + [pair]
    for some in itertools.permutations(paper):
        if list(some) != paper:
            yield list(some)


def other_wheres(paper):
    """The papers with a where that is none, in the place of one or beside all."""
    for where in ((), ("l",), ("l", 7), ("l", -1), ("l", "0"), ("x",), ("l", 0, "n"), ("r", 9), ("", 0), (("l",), 0),
                  ((), ()), ("l", (0,))):
        for word in ("kept", "made"):
            if where not in [own for own, told in paper]:
                yield paper + [(where, word)]
                yield [(where, word)] + paper
                for at in range(len(paper)):
                    yield paper[:at] + [(where, word)] + paper[at + 1:]


class JudgeTest(unittest.TestCase):
    def shown(self, change, shape, one, memory, outcome, paper, expected=True):
        with self.subTest(change=change, one=one, memory=memory, outcome=outcome, paper=paper):
            self.assertIs(shows_step(change, shape, one, memory, outcome, paper), expected)

    def refuted(self, change, shape, one, memory, outcome, paper):
        self.shown(change, shape, one, memory, outcome, paper, False)


class ShownTest(JudgeTest):
    def test_the_steps_own(self):
        self.shown(CHANGE, SHAPE, RECORD, MEMORY, OUTCOME, PAPER)
        self.assertEqual(step(CHANGE, SHAPE, RECORD, MEMORY), OUTCOME)
        self.assertEqual(step_paper(CHANGE, SHAPE, RECORD, MEMORY), PAPER)

    def test_a_paper_that_is_a_tuple(self):
        self.shown(CHANGE, SHAPE, RECORD, MEMORY, OUTCOME, tuple(PAPER))

    def test_no_spots(self):
        none = rec(l=items(), z=3)
        self.shown(CHANGE, SHAPE, none, MEMORY, none, [])
        self.shown(CHANGE, SHAPE, none, MEMORY, none, ())
        self.refuted(CHANGE, SHAPE, none, MEMORY, rec(l=items(), z=4), [])
        self.refuted(CHANGE, SHAPE, none, MEMORY, none, [((), "made")])
        self.refuted(CHANGE, SHAPE, none, MEMORY, none, [(("l", 0), "kept")])
        self.refuted(CHANGE, SHAPE, none, MEMORY, MEMORY, [(("l", 0), "kept"), (("l", 1), "kept")])

    def test_nothing_handed_in_is_changed(self):
        paper = list(PAPER)
        for again in range(2):
            self.shown(CHANGE, SHAPE, RECORD, MEMORY, OUTCOME, paper)
        self.assertEqual(paper, PAPER)

    def test_of_all_pieces_and_turns(self):
        for sample in SAMPLES:
            for change, shape, ours, theirs in ((sample.change, sample.shape, sample.records, sample.others),
                                                (sample.about, sample.behind, sample.others, sample.records)):
                for at, one in enumerate(ours):
                    for memory in (theirs[at % len(theirs)], theirs[-1], led(change, shape, one)):
                        outcome = step(change, shape, one, memory)
                        self.shown(change, shape, one, memory, outcome, step_paper(change, shape, one, memory))


class RefutedTest(JudgeTest):
    def test_another_word(self):
        for paper in other_words(PAPER):
            self.refuted(CHANGE, SHAPE, RECORD, MEMORY, OUTCOME, paper)

    def test_another_word_for_what_is_kept_and_made_alike(self):
        # The memory has what would be made: it fits, so the word is kept.
        memory = led(CHANGE, SHAPE, RECORD)
        self.shown(CHANGE, SHAPE, RECORD, memory, memory, [(("l", at), "kept") for at in range(3)])
        self.refuted(CHANGE, SHAPE, RECORD, memory, memory, [(("l", at), "made") for at in range(3)])
        for paper in other_words([(("l", at), "kept") for at in range(3)]):
            self.refuted(CHANGE, SHAPE, RECORD, memory, memory, paper)

    def test_too_few_too_many_twice_and_in_another_order(self):
        for paper in other_spots(PAPER):
            self.refuted(CHANGE, SHAPE, RECORD, MEMORY, OUTCOME, paper)
        self.refuted(CHANGE, SHAPE, RECORD, MEMORY, OUTCOME, [])

    def test_wheres_that_are_none(self):
        for paper in other_wheres(PAPER):
            self.refuted(CHANGE, SHAPE, RECORD, MEMORY, OUTCOME, paper)

    def test_a_spot_of_the_memory_alone(self):
        few, many = rec(l=items(rec(c="red", n=1)), z=5), led(CHANGE, SHAPE, RECORD)
        outcome = rec(l=items(rec(c="red", n=10)), z=5)
        self.shown(CHANGE, SHAPE, few, many, outcome, [(("l", 0), "kept")])
        self.refuted(CHANGE, SHAPE, few, many, outcome, [(("l", 0), "kept"), (("l", 1), "kept")])
        self.refuted(CHANGE, SHAPE, few, many, many, [(("l", 0), "kept")])
        self.refuted(CHANGE, SHAPE, few, many, many, [(("l", at), "kept") for at in range(3)])

    def test_other_outcomes(self):
        told = {outcome for outcome in (
            put_at(OUTCOME, place, other) for place in places(OUTCOME)
            for other in (0, 5, 17, 20, 30, -1, "", "red", "blue", "l", "record", "list", (), ("list", ()),
                          ("record", ()), RECORD, MEMORY, (0,))
        ) if outcome != OUTCOME}
        self.assertGreater(len(told), 400)
        for outcome in told:
            self.refuted(CHANGE, SHAPE, RECORD, MEMORY, outcome, PAPER)

    def test_another_value_at_a_spot(self):
        for at in range(3):
            for number in range(-90, 91):
                some = [17, 20, 20]
                some[at] = number
                outcome = rec(l=items(*[rec(c=c, n=n) for c, n in zip(("red", "blue", "red"), some)]), z=5)
                expected = outcome == OUTCOME
                for paper in [PAPER] + list(other_words(PAPER)):
                    self.shown(CHANGE, SHAPE, RECORD, MEMORY, outcome, paper, expected and paper == PAPER)

    def test_the_memorys_values_that_do_not_fit(self):
        # 35 stands in the memory at the second spot, but is led back to 3.
        outcome = rec(l=items(rec(c="red", n=17), rec(c="blue", n=35), rec(c="red", n=20)), z=5)
        for words in itertools.product(("kept", "made"), repeat=3):
            self.refuted(CHANGE, SHAPE, RECORD, MEMORY, outcome, [(("l", at), word) for at, word in enumerate(words)])

    def test_made_where_the_memory_fits(self):
        for words in itertools.product(("kept", "made"), repeat=3):
            self.refuted(CHANGE, SHAPE, RECORD, MEMORY, led(CHANGE, SHAPE, RECORD),
                         [(("l", at), word) for at, word in enumerate(words)])

    def test_a_value_that_fits_but_is_neither_made_nor_the_memorys(self):
        for number in (11, 18, 19):
            outcome = rec(l=items(rec(c="red", n=number), rec(c="blue", n=20), rec(c="red", n=20)), z=5)
            for paper in [PAPER] + list(other_words(PAPER)):
                self.refuted(CHANGE, SHAPE, RECORD, MEMORY, outcome, paper)

    def test_another_value_elsewhere(self):
        for outcome in (
            rec(l=items(rec(c="blue", n=17), rec(c="blue", n=20), rec(c="red", n=20)), z=5),
            rec(l=items(rec(c="red", n=17), rec(c="blue", n=20), rec(c="blue", n=20)), z=5),
            rec(l=items(rec(c="red", n=17), rec(c="blue", n=20), rec(c="red", n=20)), z=-5),
            rec(l=items(rec(c="red", n=17), rec(c="blue", n=20)), z=5),
            rec(l=items(rec(c="red", n=17), rec(c="blue", n=20), rec(c="red", n=20), rec(c="red", n=20)), z=5),
        ):
            for paper in (PAPER, PAPER[:2], PAPER + [(("l", 3), "made")]):
                self.refuted(CHANGE, SHAPE, RECORD, MEMORY, outcome, paper)

    def test_what_is_no_record_of_the_shape_behind(self):
        for outcome in (0, 17, "", "l", (), ("record",), ("record", ()), ("list", ()), (("l",),), RECORD, items(),
                        rows(), OUTCOME[1], ("rows", OUTCOME[1]), OUTCOME + (0,), ("record", 0), ("record", "lz")):
            self.refuted(CHANGE, SHAPE, RECORD, MEMORY, outcome, PAPER)
            self.refuted(CHANGE, SHAPE, RECORD, MEMORY, outcome, [])
        deep = ()
        for level in range(3000):
            deep = ("record", (("l", deep),))
        self.refuted(CHANGE, SHAPE, RECORD, MEMORY, deep, PAPER)

    def test_true_and_false_are_no_numbers(self):
        change, shape = ((), ("put", "x", NUMBER, 0)), record(n=NUMBER)
        self.shown(change, shape, rec(n=1), rec(n=0, x=0), rec(n=1, x=0), [((), "kept")])
        self.refuted(change, shape, rec(n=1), rec(n=0, x=0), rec(n=True, x=0), [((), "kept")])
        self.refuted(change, shape, rec(n=1), rec(n=0, x=0), rec(n=1, x=False), [((), "kept")])
        paper = [(("l", False), "kept"), (("l", True), "made"), (("l", 2), "made")]
        self.refuted(CHANGE, SHAPE, RECORD, MEMORY, OUTCOME, paper)

    def test_other_things_in_the_papers_places(self):
        for thing in ((), 0, "", "kept", None, [], ("kept", ("l", 0)), (("l", 0),), (("l", 0), "kept", "kept"), (0, 0),
                      ("l0", "kept"), (("l", 0), 0), (("l", 0), ()), (("l", 0), None), (("l", 0), ("kept",)),
                      (["l", 0], "kept"), (None, "kept"), ((None,), "kept"), (("l", 0, ()), "kept"),
                      ((("l", 0),), "kept"), ({}, "kept"), ((["l"], 0), "kept")):
            for at in range(3):
                self.refuted(CHANGE, SHAPE, RECORD, MEMORY, OUTCOME, PAPER[:at] + [thing] + PAPER[at + 1:])
            self.refuted(CHANGE, SHAPE, RECORD, MEMORY, OUTCOME, PAPER + [thing])
            self.refuted(CHANGE, SHAPE, RECORD, MEMORY, OUTCOME, [thing])
            self.refuted(CHANGE, SHAPE, RECORD, MEMORY, OUTCOME, thing)

    def test_rows(self):
        def table(*some):
            return rec(r=rows(*[rec(k=key, n=number) for key, number in some]), z=1)

        def short(*keys):
            return rec(r=rows(*[rec(k=key) for key in keys]), z=1)

        about, behind = change_about(DROP, KEYED), shape_behind(DROP, KEYED)
        memory = table((-3, 5), (2, 6), (7, 7))
        paper = [(("r", -3), "kept"), (("r", 0), "made"), (("r", 7), "kept")]
        one, outcome = short(-3, 0, 7), table((-3, 5), (0, 0), (7, 7))
        self.shown(about, behind, one, memory, outcome, paper)
        for other in itertools.chain(other_words(paper), other_spots(paper), other_wheres(paper)):
            self.refuted(about, behind, one, memory, outcome, other)
        for other in (table((-3, 5), (0, 6), (7, 7)), table((-3, 5), (7, 7)), table((-3, 0), (0, 0), (7, 7)),
                      table((-3, 5), (2, 6), (7, 7)), table((-3, 5), (0, 0), (2, 6), (7, 7)), memory,
                      rec(r=rows(rec(k=0, n=0), rec(k=-3, n=5), rec(k=7, n=7)), z=1)):
            self.refuted(about, behind, one, memory, other, paper)
        # By their number in the row the keys are no wheres.
        self.refuted(about, behind, one, memory, outcome, [(("r", at), word) for at, (own, word) in enumerate(paper)])

    def test_what_is_outside_of_a_box(self):
        shape = record(a=NUMBER, m=record(b=NUMBER))
        change = ((), ("sink", "a", "m"))
        one, memory = rec(a=1, m=rec(b=2)), rec(m=rec(a=1, b=9))
        self.shown(change, shape, one, memory, rec(m=rec(a=1, b=2)), [((), "kept")])
        self.refuted(change, shape, one, memory, memory, [((), "kept")])
        self.refuted(change, shape, one, memory, rec(m=rec(a=1, b=2)), [((), "made")])

    def test_just_one_outcome_and_paper_of_all(self):
        bit = ("number", 0, 1)
        line = record(b=bit, n=bit)
        for change, shape, signs in (
            ((("l", "each"), ("turn", "n", ("scale", 2))), record(l=("list", line, 2)), "a"),
            ((("l", "each"), ("drop", "n", 1)), record(l=("list", line, 2)), "a"),
            ((("l", "each"), ("put", "x", bit, 1)), record(l=("list", record(b=bit), 2)), "a"),
            ((("r", "each"), ("put", "x", bit, 1)), record(r=("rows", "b", record(b=bit), 2)), "a"),
            (((), ("split", "t", "-", "x", "y")), record(t=("text", 1)), "a-"),
            (((), ("part", "n", 2, "x", "y")), record(b=bit, n=("number", 1, 2)), "a"),
        ):
            ours, theirs = all_values(shape, signs), all_values(shape_behind(change, shape), signs)
            name = "".join(change[0][:1])
            wheres = [(name, 0), (name, 1)] if name else [()]
            marked = list(itertools.product(wheres, ("kept", "made")))
            papers = [list(some) for many in range(3) for some in itertools.product(marked, repeat=many)]
            for at, one in enumerate(ours[::3]):
                memory = theirs[at * 7 % len(theirs)]
                shown = [(outcome, paper) for outcome in theirs for paper in papers
                         if shows_step(change, shape, one, memory, outcome, paper)]
                outcome, paper = step(change, shape, one, memory), step_paper(change, shape, one, memory)
                with self.subTest(change=change, one=one, memory=memory):
                    self.assertEqual(shown, [(outcome, paper)])


if __name__ == "__main__":
    unittest.main()
