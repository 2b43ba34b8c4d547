"""Papers of writes, and the judge who walks them: [8.4], with [0.2], [0.3], [0.4]."""

import itertools
import random
import unittest

from oldhands.errors import BadValue, BadVersion
from oldhands.values import is_of
from oldhands.versions import Versions
from oldhands.viewjudge import shows_write, write_papers
from oldhands.views import written
from chains import ALL, CHURN, drawn_views, drawn_write, plain_begun, plain_written, there_and_back
from samples import all_values, items, places, put_at, rec, record, rows
from ways import all_changes

NUMBER = ("number", 0, 9)
TEXT = ("text", 3)
SHORT = Versions(record(n=NUMBER, t=TEXT), [
    ((), ("turn", "n", ("scale", 10))), ((), ("put", "x", NUMBER, 4)), ((), ("drop", "t", "zz")),
])
BEGUN = [rec(n=3, t="ab"), rec(n=37, t="ab"), rec(n=37, t="ab", x=4), rec(n=37, x=4)]

# Rows of a list and of a table, of which each step keeps some and makes some.
LINES = Versions(record(l=("list", record(n=NUMBER), 3), r=("rows", "k", record(k=TEXT, n=NUMBER), 3)), [
    (("l", "each"), ("turn", "n", ("scale", 10))), (("r", "each"), ("drop", "n", 5)),
    (("l", "each"), ("put", "x", NUMBER, 7)),
])
VIEWS = [
    rec(l=items(rec(n=1), rec(n=2)), r=rows(rec(k="a", n=1), rec(k="c", n=3))),
    rec(l=items(rec(n=15), rec(n=26)), r=rows(rec(k="a", n=1), rec(k="c", n=3))),
    rec(l=items(rec(n=15), rec(n=26)), r=rows(rec(k="a"), rec(k="c"))),
    rec(l=items(rec(n=15, x=1), rec(n=26, x=2)), r=rows(rec(k="a"), rec(k="c"))),
]
WRITTEN = rec(l=items(rec(n=14), rec(n=31), rec(n=8)), r=rows(rec(k="b"), rec(k="c")))
AFTER = [
    rec(l=items(rec(n=1), rec(n=3), rec(n=0)), r=rows(rec(k="b", n=5), rec(k="c", n=3))),
    rec(l=items(rec(n=14), rec(n=31), rec(n=8)), r=rows(rec(k="b", n=5), rec(k="c", n=3))),
    WRITTEN,
    rec(l=items(rec(n=14, x=1), rec(n=31, x=2), rec(n=8, x=7)), r=rows(rec(k="b"), rec(k="c"))),
]
PAPERS = [
    (0, [(("l", 0), "kept"), (("l", 1), "made"), (("l", 2), "made")]),
    (1, [(("r", "b"), "made"), (("r", "c"), "kept")]),
    (3, [(("l", 0), "kept"), (("l", 1), "kept"), (("l", 2), "made")]),
]
NO_VERSIONS = (-1, -2, -4, 4, 5, 10 ** 30, -10 ** 30)


def as_tuples(thing):
    return tuple(as_tuples(one) for one in thing) if isinstance(thing, (list, tuple)) else thing


def lists_within(thing):
    """Every list within a thing."""
    found = [thing] if isinstance(thing, list) else []
    if isinstance(thing, (list, tuple)):
        for one in thing:
            found.extend(lists_within(one))
    return found


class PapersTest(unittest.TestCase):
    def refused(self, refusal, do, *arguments):
        for again in range(2):
            with self.subTest(arguments=arguments), self.assertRaises(refusal) as caught:
                do(*arguments)
            self.assertIs(type(caught.exception), refusal)

    def shown(self, versions, views, number, one, after, papers, expected=True):
        with self.subTest(number=number, one=one, after=after, papers=papers):
            self.assertIs(shows_write(versions, views, number, one, after, papers), expected)

    def refuted(self, after, papers):
        self.shown(LINES, VIEWS, 2, WRITTEN, after, papers, False)


class ToldTest(PapersTest):
    def test_for_each_version_but_the_written_one(self):
        for number, one, expected in (
            (0, rec(n=3, t="c"), [(1, "kept"), (2, "kept"), (3, "kept")]),
            (0, rec(n=4, t="ab"), [(1, "made"), (2, "kept"), (3, "kept")]),
            (1, rec(n=38, t="ab"), [(0, "kept"), (2, "kept"), (3, "kept")]),
            (1, rec(n=48, t="ab"), [(0, "made"), (2, "kept"), (3, "kept")]),
            (2, rec(n=48, t="ab", x=9), [(0, "made"), (1, "kept"), (3, "kept")]),
            (3, rec(n=37, x=4), [(0, "kept"), (1, "kept"), (2, "kept")]),
            (3, rec(n=27, x=5), [(0, "made"), (1, "kept"), (2, "kept")]),
        ):
            with self.subTest(number=number, one=one):
                papers = write_papers(SHORT, BEGUN, number, one)
                self.assertEqual(papers, [(far, [((), word)]) for far, word in expected])
                self.assertEqual(write_papers(SHORT, tuple(BEGUN), number, one), papers)
                self.shown(SHORT, BEGUN, number, one, written(SHORT, BEGUN, number, one), papers)

    def test_for_each_spot(self):
        self.assertEqual(written(LINES, VIEWS, 2, WRITTEN), AFTER)
        for again in range(2):
            papers = write_papers(LINES, VIEWS, 2, WRITTEN)
            self.assertEqual(papers, PAPERS)
            self.assertIsInstance(papers, list)
            # What is told is the asker's own, no two lists of it being one.
            found = lists_within(papers)
            self.assertEqual(len({id(one) for one in found}), 4)
            for one in found:
                one.clear()

    def test_of_one_version(self):
        versions = Versions(record(n=NUMBER), [])
        self.assertEqual(write_papers(versions, [rec(n=1)], 0, rec(n=2)), [])
        self.shown(versions, [rec(n=1)], 0, rec(n=2), [rec(n=2)], [])
        self.shown(versions, [rec(n=1)], 0, rec(n=2), [rec(n=1)], [], False)
        self.shown(versions, [rec(n=1)], 0, rec(n=2), [], [], False)
        self.shown(versions, [rec(n=1)], 0, rec(n=2), [rec(n=2)], [(0, [])], False)
        self.shown(versions, [rec(n=1)], 0, rec(n=2), [rec(n=2)], [(1, [])], False)

    def test_nothing_handed_in_is_changed(self):
        views, after, papers = list(VIEWS), list(AFTER), [(far, list(paper)) for far, paper in PAPERS]
        for again in range(2):
            write_papers(LINES, views, 2, WRITTEN)
            self.shown(LINES, views, 2, WRITTEN, after, papers)
        self.assertEqual((views, after, papers), (VIEWS, AFTER, PAPERS))

    def test_tuples_in_the_place_of_lists(self):
        self.shown(LINES, tuple(VIEWS), 2, WRITTEN, tuple(AFTER), as_tuples(PAPERS))

    def test_against_the_documents_words(self):
        words = {"kept": 0, "made": 0}
        for versions in (ALL, CHURN):
            chance = random.Random(3)
            for at in range(60):
                views = drawn_views(versions, chance.randrange(10 ** 9), 4)
                number, one = drawn_write(versions, views, chance)
                after, papers = plain_written(versions, views, number, one)
                self.assertEqual(write_papers(versions, views, number, one), papers)
                self.assertEqual([far for far, paper in papers],
                                 [far for far in range(versions.many()) if far != number])
                self.shown(versions, views, number, one, after, papers)
                for far, paper in papers:
                    for where, word in paper:
                        words[word] += 1
        self.assertGreater(min(words.values()), 50)

    def test_of_all_pieces_and_turns(self):
        for sample in all_changes(2):
            versions = there_and_back(sample)
            views = plain_written(versions, plain_begun(versions, 0, sample.records[0]), 1, sample.others[-1])[0]
            for number, one in ((1, sample.others[0]), (2, sample.records[-1])):
                after, papers = plain_written(versions, views, number, one)
                self.assertEqual(write_papers(versions, views, number, one), papers)
                self.shown(versions, views, number, one, after, papers)
                for far in range(4):
                    if views[far] != after[far]:
                        other = after[:far] + [views[far]] + after[far + 1:]
                        self.shown(versions, views, number, one, other, papers, False)


class JudgedTest(PapersTest):
    def test_other_words_and_wheres(self):
        for at, (far, paper) in enumerate(PAPERS):
            for spot, (where, word) in enumerate(paper):
                for other in ([(where, "made" if word == "kept" else "kept")], [(where, "")], [],
                              [(where[:1], word)], [(where[:1] + (9,), word)], [((), word)], [(where, word)] * 2):
                    wrong = paper[:spot] + other + paper[spot + 1:]
                    self.refuted(AFTER, PAPERS[:at] + [(far, wrong)] + PAPERS[at + 1:])
            for wrong in ([], paper[::-1], paper[1:], paper[:-1], paper + paper[-1:], VIEWS, [0], ["kept"], [()]):
                self.refuted(AFTER, PAPERS[:at] + [(far, wrong)] + PAPERS[at + 1:])

    def test_other_versions(self):
        first, second, third = PAPERS
        for papers in ([], PAPERS[:2], PAPERS[1:], [first, third], PAPERS + [third], [first] + PAPERS,
                       [first, second, (2, []), third], [first, second, (2, [((), "kept")]), third],
                       PAPERS + [(4, [])], [(-1, [])] + PAPERS, [(0, first[1]), (1, second[1]), (4, third[1])],
                       [(0, first[1]), (1, second[1]), (2, third[1])], [(0, first[1]), (1, second[1]), (-1, third[1])],
                       [(1, first[1]), (0, second[1]), (3, third[1])], [(3, first[1]), (1, second[1]), (0, third[1])],
                       [first, first, third], [(0, first[1], 0), second, third], [(0,), second, third],
                       [0, 1, 3], [(), (), ()]):
            self.refuted(AFTER, papers)
        for papers in itertools.permutations(PAPERS):
            self.shown(LINES, VIEWS, 2, WRITTEN, AFTER, list(papers), list(papers) == PAPERS)

    def test_other_views(self):
        self.shown(LINES, VIEWS, 2, WRITTEN, AFTER, PAPERS)
        told = 0
        for number in range(4):
            for place in places(AFTER[number]):
                for other in (0, 1, 3, 5, 14, 31, -1, "", "a", "n", "record", (), ("list", ()), ("record", ()),
                              ("rows", ()), VIEWS[number], AFTER[number - 1], (0,)):
                    one = put_at(AFTER[number], place, other)
                    if one != AFTER[number]:
                        self.refuted(AFTER[:number] + [one] + AFTER[number + 1:], PAPERS)
                        told += 1
        self.assertGreater(told, 1000)

    def test_what_are_no_numbers_and_no_papers(self):
        versions = Versions(record(n=NUMBER), [((), ("put", "x", NUMBER, 0))])
        views, after = [rec(n=1), rec(n=1, x=1)], [rec(n=0), rec(n=0, x=1)]
        self.shown(versions, views, 0, rec(n=0), after, [(1, [((), "kept")])])
        for wrong in ([rec(n=False), after[1]], [after[0], rec(n=False, x=1)], [after[0], rec(n=0, x=True)]):
            self.shown(versions, views, 0, rec(n=0), wrong, [(1, [((), "kept")])], False)
        for papers in ([(True, [((), "kept")])], ["1"], [[1, [((), "kept")]]], 0, None, (1, [((), "kept")])):
            self.shown(versions, views, 0, rec(n=0), after, papers, False)

    def test_too_few_and_too_many_views(self):
        self.refuted([], PAPERS)
        for number in range(4):
            self.refuted(AFTER[:number], PAPERS)
            self.refuted(AFTER[:number] + AFTER[number + 1:], PAPERS)
            self.refuted(AFTER + AFTER[number:], PAPERS)
            self.refuted(AFTER[:number] + [AFTER[number]] + AFTER[number:], PAPERS)
        for some in itertools.permutations(AFTER):
            self.shown(LINES, VIEWS, 2, WRITTEN, list(some), PAPERS, list(some) == AFTER)

    def test_views_that_fit_but_are_not_written(self):
        # All of these are views, and have the record written.
        begun = plain_begun(LINES, 2, WRITTEN)
        self.refuted(begun, PAPERS)
        self.refuted(begun, [(far, [(where, "made") for where, word in paper]) for far, paper in PAPERS])
        self.refuted(VIEWS, PAPERS)
        far = rec(l=items(rec(n=14, x=1), rec(n=31, x=3), rec(n=8, x=7)), r=rows(rec(k="b"), rec(k="c")))
        self.refuted(AFTER[:3] + [far], PAPERS)

    def test_another_record_or_version_written(self):
        other = rec(l=items(rec(n=14), rec(n=31), rec(n=9)), r=rows(rec(k="b"), rec(k="c")))
        self.shown(LINES, VIEWS, 2, other, AFTER, PAPERS, False)
        for number in (0, 1, 3):
            self.shown(LINES, VIEWS, number, AFTER[number], AFTER, PAPERS, False)
        self.shown(LINES, AFTER, 2, WRITTEN, AFTER, PAPERS, False)
        self.shown(LINES, AFTER, 2, WRITTEN, AFTER, write_papers(LINES, AFTER, 2, WRITTEN))

    def test_just_one_of_all_is_shown(self):
        two = ("number", 0, 2)
        versions = Versions(record(n=two), [((), ("turn", "n", ("scale", 2))), ((), ("put", "x", ("number", 0, 1), 0))])
        kinds = [all_values(versions.shape(number)) for number in range(3)]
        words = ("kept", "made")
        for views in ([rec(n=0), rec(n=1), rec(n=1, x=1)], [rec(n=2), rec(n=4), rec(n=4, x=0)]):
            for number in range(3):
                for one in kinds[number]:
                    shown = []
                    others = [far for far in range(3) if far != number]
                    for after in itertools.product(*kinds):
                        for some in itertools.product(words, repeat=2):
                            papers = [(far, [((), word)]) for far, word in zip(others, some)]
                            if shows_write(versions, views, number, one, list(after), papers):
                                shown.append((list(after), papers))
                    self.assertEqual(shown, [plain_written(versions, views, number, one)])

    def test_drawn_ones(self):
        chance = random.Random(9)
        for versions in (ALL, CHURN):
            for at in range(12):
                views = drawn_views(versions, chance.randrange(10 ** 9), 4)
                number, one = drawn_write(versions, views, chance)
                after, papers = plain_written(versions, views, number, one)
                other_number, other = drawn_write(versions, after, chance)
                wrong = after[:other_number] + [other] + after[other_number + 1:]
                self.shown(versions, views, number, one, wrong, papers, wrong == after)
                for far, paper in papers:
                    self.shown(versions, views, number, one, after, [pair for pair in papers if pair[0] != far], False)


class RefusedTest(PapersTest):
    def test_versions_that_are_none(self):
        for number in NO_VERSIONS:
            # Ahead of what is no record, no views and no papers, too.
            for one in (WRITTEN, AFTER[0], rec(), 0, "", ()):
                self.refused(BadVersion, write_papers, LINES, VIEWS, number, one)
                self.refused(BadVersion, shows_write, LINES, VIEWS, number, one, AFTER, PAPERS)
                self.refused(BadVersion, shows_write, LINES, VIEWS, number, one, [], [])

    def test_records_that_are_not_of_the_shape(self):
        for number in range(4):
            for one in VIEWS + [rec(), 0, "", (), ("record",), items(), rows(), VIEWS[number][1]]:
                if not is_of(one, LINES.shape(number)):
                    self.refused(BadValue, write_papers, LINES, VIEWS, number, one)
                    self.refused(BadValue, shows_write, LINES, VIEWS, number, one, AFTER, PAPERS)
                    self.refused(BadValue, shows_write, LINES, VIEWS, number, one, [], [])


if __name__ == "__main__":
    unittest.main()
