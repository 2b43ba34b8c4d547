"""What the head promises over the whole program: [0.1], [0.2], [0.3], [0.4]."""

import random
import unittest

from oldhands import errors
from oldhands.backward import question_between
from oldhands.desk import Desk, deed_text
from oldhands.errors import refusal_name
from oldhands.hands import Hand
from oldhands.judge import shows_step
from oldhands.leading import lost, restored
from oldhands.office import Office
from oldhands.questions import asked, passing
from oldhands.rowforms import is_short, row_shows, shortened
from oldhands.rowsteps import step_done, touches
from oldhands.spares import is_kept, kept_of, views_of
from oldhands.spots import spots, wheres, with_values
from oldhands.steps import step, step_paper
from oldhands.store import Store
from oldhands.texts import read_change, read_kind, read_value
from oldhands.values import with_fields, without_fields
from oldhands.versions import Versions, led_between, lost_between, restored_between
from oldhands.viewjudge import shows_write, write_papers
from oldhands.views import are_views, begun_views, turned_stretch, written
from oldhands.words import change_text, kind_text, value_text
from chains import ALL, CHANGES, FIRST, RECORD, drawn_views
from deeds import PlainOffice, drawn_deed
from samples import items, rec

VIEWS = drawn_views(ALL, 5)
AFTER = written(ALL, VIEWS, 4, begun_views(ALL, 0, RECORD)[4])
PAPERS = write_papers(ALL, VIEWS, 4, AFTER[4])
LOST = lost_between(ALL, 0, 20, RECORD)
LED = led_between(ALL, 0, 20, RECORD)
# A change that loses at several spots.
DROP = (("r", "each"), ("drop", "n", 0))
MEMORY = step(DROP, FIRST, RECORD, begun_views(Versions(FIRST, [DROP]), 0, RECORD)[1])
PAPER = step_paper(DROP, FIRST, RECORD, MEMORY)
STEPS, SHORT = shortened(FIRST, CHANGES)


def tried_office():
    office = Office(ALL)
    office.do(("write", 0, "k", RECORD))
    office.do(("write", 3, "l", VIEWS[3]))
    return office


def told_lists(thing):
    """Every list and dict within a thing."""
    if isinstance(thing, dict):
        return [thing] + [one for inner in thing.values() for one in told_lists(inner)]
    if isinstance(thing, (list, tuple)):
        own = [thing] if isinstance(thing, list) else []
        return own + [one for inner in thing for one in told_lists(inner)]
    return []


def as_tuples(thing):
    return tuple(as_tuples(one) for one in thing) if isinstance(thing, (list, tuple)) else thing


def as_lists(thing):
    """A copy, so that what is handed in stays with the test."""
    if isinstance(thing, list):
        return [as_lists(one) for one in thing]
    return tuple(as_lists(one) for one in thing) if isinstance(thing, tuple) else thing


class ToldTest(unittest.TestCase):
    """[0.2]: what is told is the asker's own, and the same each time."""

    def test_lists_that_are_told(self):
        office, store = tried_office(), Store(ALL)
        store.write(0, "k", RECORD)
        store.write(2, "l", VIEWS[2])
        hand = Hand(office, 2)
        for ask in (
            lambda: wheres(FIRST, RECORD, ("r", "each", "n")), lambda: spots(FIRST, RECORD, ("r", "each")),
            lambda: lost(DROP, FIRST, RECORD), lambda: step_paper(DROP, FIRST, RECORD, MEMORY),
            lambda: lost_between(ALL, 0, 20, RECORD), lambda: begun_views(ALL, 3, VIEWS[3]),
            lambda: written(ALL, VIEWS, 4, AFTER[4]), lambda: write_papers(ALL, VIEWS, 4, AFTER[4]),
            lambda: views_of(ALL, kept_of(ALL, VIEWS, 3)), lambda: office.deeds(), lambda: office.all_keys(),
            lambda: store.all_keys(), lambda: hand.all_keys(),
            lambda: passing(("every", ("r", "each", "n"), (), ">", -9), FIRST, RECORD),
            lambda: touches(DROP), lambda: step_done(FIRST, CHANGES, ("swap", 0)), lambda: shortened(FIRST, CHANGES),
            lambda: shortened(FIRST, SHORT),
        ):
            one, other = ask(), ask()
            self.assertEqual(one, other)
            found = told_lists(one) + told_lists(other)
            self.assertTrue(found)
            self.assertEqual(len({id(own) for own in found}), len(found))
            for own in told_lists(one):
                own.clear()
            self.assertEqual(ask(), other)

    def test_nothing_done_later_changes_it(self):
        office = tried_office()
        told = office.deeds(), office.all_keys(), office.versions().many(), office.read(4, "k")
        before = as_lists(told)
        versions = office.versions()
        for deed in (("drop", "k"), ("write", 5, "m", AFTER[5])):
            office.do(deed)
        office.back()
        self.assertEqual(told, before)
        self.assertEqual(versions.many(), 21)
        views = begun_views(ALL, 0, RECORD)
        kept = kept_of(ALL, views, 0)
        views.clear()
        self.assertEqual(views_of(ALL, kept), begun_views(ALL, 0, RECORD))


class HandedInTest(unittest.TestCase):
    """[0.2], [0.3]: lists may be tuples, and are neither changed nor kept."""

    def test_lists_that_are_handed_in(self):
        for do, *arguments in (
            (with_fields, RECORD, ["a", "zz"], [1, items()]), (without_fields, RECORD, ["a", "c"]),
            (with_values, FIRST, RECORD, [(("r", "", "n"), 1), (("r", "q", "n"), 2)]),
            (restored, DROP, FIRST, MEMORY, lost(DROP, FIRST, RECORD)),
            (shows_step, DROP, FIRST, RECORD, MEMORY, MEMORY, PAPER), (restored_between, ALL, 0, 20, LED, LOST),
            (written, ALL, VIEWS, 4, AFTER[4]), (are_views, ALL, VIEWS), (turned_stretch, VIEWS, AFTER),
            (write_papers, ALL, VIEWS, 4, AFTER[4]), (shows_write, ALL, VIEWS, 4, AFTER[4], AFTER, PAPERS),
            (kept_of, ALL, VIEWS, 7), (step_done, FIRST, list(CHANGES), ("swap", 0)), (is_short, FIRST, list(SHORT)),
            (shortened, FIRST, list(CHANGES)), (row_shows, FIRST, list(CHANGES), STEPS, SHORT),
        ):
            with self.subTest(do=do.__name__):
                handed = [as_lists(one) for one in arguments]
                told = do(*handed)
                self.assertEqual(handed, arguments)
                self.assertEqual(do(*[as_tuples(one) for one in arguments]), told)
                before = as_lists(told)
                for own in told_lists(handed):
                    own.clear()
                self.assertEqual(told, before)
                self.assertNotEqual(told, False)

    def test_changes_are_not_kept_but_as_a_copy(self):
        changes = list(CHANGES)
        versions = Versions(FIRST, changes)
        changes.reverse()
        changes.pop()
        self.assertEqual([versions.change(number) for number in range(20)], list(CHANGES))
        self.assertEqual(Versions(FIRST, tuple(CHANGES)).shape(20), versions.shape(20))


class RefusalsTest(unittest.TestCase):
    """[0.4]: each refusal has a class of its own, by whose name the desk tells it."""

    def test_names(self):
        for name in ("BadKind", "BadValue", "BadPath", "BadTurn", "BadPiece", "BadVersion", "BadText", "BadQuestion",
                     "NoRecord", "Taken", "NoDeed", "Full", "HandError"):
            self.assertEqual(refusal_name(getattr(errors, name)("some words")), name)

    def test_the_desk_tells_what_the_office_refuses(self):
        desk, office = Desk(kind_text(FIRST)), Office(Versions(FIRST, []))
        office.do(("write", 0, "k", RECORD))
        desk.ask(deed_text(("write", 0, "k", RECORD)))
        for deed in (
            ("write", 1, "k", RECORD), ("write", 0, "k", rec()), ("set", 0, "z", ("a",), 1), ("set", 1, "k", ("a",), 1),
            ("set", 0, "k", ("z",), 1), ("set", 0, "k", ("a",), 99), ("set", 0, "k", ("r", "p", "k"), "px"),
            ("drop", "z"),
            ("grow", (("z",), ("drop", "a", 0))), ("grow", ((), ("drop", "z", 0))),
            ("grow", ((), ("turn", "a", ("cut", 1)))),
            ("grow", (("r", "each"), ("put", "z", ("list", ("list", ("list", ("text", 1), 1), 1), 1), items()))),
        ):
            with self.subTest(deed=deed), self.assertRaises(errors.HandError) as caught:
                office.do(deed)
            self.assertEqual(desk.ask(deed_text(deed)), f"refused {type(caught.exception).__name__}")
            self.assertIs(type(caught.exception).__base__, errors.HandError)
        self.assertEqual(len(office.deeds()), 1)
        self.assertEqual(desk.ask("back"), deed_text(("write", 0, "k", RECORD)))


class StoryTest(unittest.TestCase):
    """[0.1]: hands of every version at once, what turns for the others, what is lost, and the judges."""

    def test_a_record_served_to_every_version(self):
        for seed in range(20):
            chance = random.Random(seed)
            desk, office, store = Desk(kind_text(FIRST)), Office(Versions(FIRST, [])), Store(Versions(FIRST, []))
            plain = PlainOffice(Versions(FIRST, []))
            for at in range(30):
                versions, views = plain.states[-1]
                deed = drawn_deed(versions, views, chance, CHANGES)
                told = plain.do(deed)
                self.assertEqual(office.do(deed), told)
                self.assertEqual(desk.ask(deed_text(deed)).split(" ")[0], told[0])
                self.in_store(store, deed, office)
                self.judged(plain, versions, views, deed)
            self.same_for_all(desk, office, store, plain)

    def in_store(self, store, deed, office):
        """What a deed does, done in a store."""
        match deed:
            case ("grow", change):
                store.grow(change)
            case ("drop", key):
                store.drop(key)
            case (_, version, key, *_):
                store.write(version, key, office.read(version, key))
                self.assertTrue(is_kept(store.versions(), store.kept(key)))

    def judged(self, plain, versions, views, deed):
        """A judge lets the papers of a write by, for the views written and for no others."""
        if deed[0] in ("write", "set") and deed[2] in views:
            number, before, after = deed[1], views[deed[2]], plain.states[-1][1][deed[2]]
            papers = write_papers(versions, before, number, after[number])
            self.assertIs(shows_write(versions, before, number, after[number], after, papers), True)
            if after != before:
                self.assertIs(shows_write(versions, before, number, after[number], before, papers), False)

    def same_for_all(self, desk, office, store, plain):
        versions, views = plain.states[-1]
        many = versions.many()
        for key, some in views.items():
            self.assertTrue(are_views(versions, some))
            for number, one in enumerate(some):
                self.assertEqual(office.read(number, key), one)
                self.assertEqual(store.read(number, key), one)
                self.assertEqual(Hand(office, number).read(key), one)
                self.assertEqual(read_value(desk.ask(f"read {number} {key}"), versions.shape(number)), one)
                goal = (number * 7) % many
                found = lost_between(versions, number, goal, one)
                there = led_between(versions, number, goal, one)
                self.assertEqual(restored_between(versions, number, goal, there, found[::-1]), one)
                self.assertEqual(desk.ask(f"lost {number} {goal} {key}").count("\n"), max(len(found) - 1, 0))
        for number in range(many):
            self.assertEqual(read_kind(desk.ask(f"shape {number}")), versions.shape(number))
        row = [read_change(desk.ask(f"change {number}")) for number in range(many - 1)]
        self.assertEqual(row, [versions.change(number) for number in range(many - 1)])
        steps, short = shortened(versions.shape(0), row)
        self.assertTrue(row_shows(versions.shape(0), row, steps, short))
        self.by_the_short_row(versions, Versions(versions.shape(0), short), [some[0] for some in views.values()])

    def by_the_short_row(self, versions, other, records):
        """Records, and questions of the last version, are led alike by a row and by its short one."""
        last, short = versions.many() - 1, other.many() - 1
        self.assertEqual(versions.shape(last), other.shape(short))
        for one in records:
            there = led_between(versions, 0, last, one)
            self.assertEqual(led_between(other, 0, short, one), there)
            self.assertEqual(led_between(other, short, 0, there), led_between(versions, last, 0, there))
            question = ("some", ("r", "each", "k"), (), ">", "a")
            for own, end in ((versions, last), (other, short)):
                led_question = question_between(own, end, 0, question)
                self.assertIs(asked(led_question, own.shape(0), one), asked(question, own.shape(end), there))

    def test_what_is_written_is_read_again(self):
        for number in range(20):
            self.assertEqual(read_change(change_text(ALL.change(number))), ALL.change(number))
            self.assertEqual(read_kind(kind_text(ALL.shape(number))), ALL.shape(number))
            self.assertEqual(read_value(value_text(VIEWS[number]), ALL.shape(number)), VIEWS[number])


if __name__ == "__main__":
    unittest.main()
