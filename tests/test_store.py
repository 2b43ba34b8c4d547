"""The store: [9.4], with [8.2], [8.3], [0.2], [0.4]."""

import itertools
import random
import string
import unittest

from oldhands.errors import BadKind, BadPath, BadPiece, BadTurn, BadValue, BadVersion, Full, NoRecord
from oldhands.leading import led
from oldhands.spares import is_kept
from oldhands.store import Store
from oldhands.values import is_of
from oldhands.versions import Versions
from chains import ALL, CHANGES, CHURN, FIRST, RECORD, drawn_write, plain_begun, plain_kept, plain_written
from samples import deep, items, rec, record, rows, some_value

NUMBER = ("number", 0, 9)
TEXT = ("text", 3)
FIRST_SHORT = record(n=NUMBER, t=TEXT)
SHORT_CHANGES = (((), ("turn", "n", ("scale", 10))), ((), ("put", "x", NUMBER, 4)), ((), ("drop", "t", "zz")))
SHORT = Versions(FIRST_SHORT, SHORT_CHANGES)
NO_VERSIONS = (-1, -2, -4, 4, 5, 10 ** 30, -10 ** 30)
NAMES = ["".join(some) for some in itertools.product(string.ascii_lowercase[:11], repeat=2)]


class Keeper:
    """Keeps all views of each record, and who wrote last."""

    def __init__(self, versions):
        self.versions, self.views, self.last = versions, {}, {}

    def write(self, number, key, one):
        before = self.views.get(key)
        if before is None:
            self.views[key] = plain_begun(self.versions, number, one)
        else:
            self.views[key] = plain_written(self.versions, before, number, one)[0]
        self.last[key] = number
        unlike = [at for at, view in enumerate(before or []) if view != self.views[key][at]]
        return (unlike[0], unlike[-1]) if unlike else None

    def drop(self, key):
        del self.views[key], self.last[key]

    def grow(self, change):
        number = self.versions.many() - 1
        shape = self.versions.shape(number)
        self.versions = self.versions.grown(change)
        for views in self.views.values():
            views.append(led(change, shape, views[-1]))
        return number + 1


def told_of(store):
    """All that a store tells."""
    versions = store.versions()
    return (
        [versions.shape(number) for number in range(versions.many())],
        [versions.change(number) for number in range(versions.many() - 1)], store.all_keys(),
        [(store.kept(key), [store.read(number, key) for number in range(versions.many())]) for key in store.all_keys()],
    )


class StoreTest(unittest.TestCase):
    def refused(self, store, refusal, do, *arguments):
        """What is refused changes nothing."""
        before = told_of(store)
        for again in range(2):
            with self.subTest(arguments=arguments), self.assertRaises(refusal) as caught:
                do(*arguments)
            self.assertIs(type(caught.exception), refusal)
        self.assertEqual(told_of(store), before)

    def alike(self, store, keeper):
        """A store tells what a keeper of views tells."""
        many = keeper.versions.many()
        self.assertEqual(store.versions().many(), many)
        self.assertEqual(store.all_keys(), sorted(keeper.views))
        for key, views in keeper.views.items():
            self.assertEqual([store.read(number, key) for number in range(many)], views)
            triple = store.kept(key)
            self.assertEqual(triple, plain_kept(keeper.versions, views, keeper.last[key]))
            self.assertIs(is_kept(keeper.versions, triple), True)


class WriteTest(StoreTest):
    def test_holds_no_records(self):
        for versions in (SHORT, ALL, Versions(record(), [])):
            store = Store(versions)
            self.assertEqual(store.all_keys(), [])
            self.assertIsInstance(store.versions(), Versions)
            self.assertEqual(store.versions().many(), versions.many())

    def test_begun_and_written_by_hands_of_every_version(self):
        store = Store(SHORT)
        self.assertIsNone(store.write(1, "key", rec(n=37, t="ab")))
        self.assertEqual(store.kept("key"), (1, rec(n=37, t="ab"), ((), (), (), ())))
        for number, one, stretch, views, spares in (
            (3, rec(n=37, x=9), (2, 3), (rec(n=3, t="ab"), rec(n=37, t="ab"), rec(n=37, t="ab", x=9), rec(n=37, x=9)),
             ((), (), (((), ("ab",)),), ())),
            (0, rec(n=3, t="c"), (0, 2), (rec(n=3, t="c"), rec(n=37, t="c"), rec(n=37, t="c", x=9), rec(n=37, x=9)),
             ((), (((), (37,)),), (((), (9,)),), ())),
            # Nothing turned, yet the version written is the home.
            (2, rec(n=37, t="c", x=9), None,
             (rec(n=3, t="c"), rec(n=37, t="c"), rec(n=37, t="c", x=9), rec(n=37, x=9)), ((), (), (), ())),
            (0, rec(n=4, t="c"), (0, 3), (rec(n=4, t="c"), rec(n=40, t="c"), rec(n=40, t="c", x=9), rec(n=40, x=9)),
             ((), (), (((), (9,)),), ())),
            (1, rec(n=40, t=""), (0, 2), (rec(n=4, t=""), rec(n=40, t=""), rec(n=40, t="", x=9), rec(n=40, x=9)),
             ((), (), (((), (9,)),), ())),
        ):
            with self.subTest(number=number, one=one):
                self.assertEqual(store.write(number, "key", one), stretch)
                for again in range(2):
                    self.assertEqual(tuple(store.read(at, "key") for at in range(4)), views)
                    self.assertEqual(store.kept("key"), (number, one, spares))

    def test_keys_are_apart(self):
        store = Store(SHORT)
        for key, n in (("b", 1), ("a", 2), ("abcdefgh", 3), ("z", 4)):
            self.assertIsNone(store.write(0, key, rec(n=n, t="")))
        self.assertEqual(store.all_keys(), ["a", "abcdefgh", "b", "z"])
        self.assertEqual(store.write(1, "a", rec(n=55, t="")), (0, 3))
        self.assertEqual([store.read(0, key) for key in store.all_keys()],
                         [rec(n=n, t="") for n in (5, 3, 1, 4)])

    def test_stores_are_apart(self):
        one, two = Store(SHORT), Store(SHORT)
        one.write(0, "a", rec(n=1, t=""))
        one.grow(((), ("drop", "x", 0)))
        self.assertEqual((two.all_keys(), two.versions().many(), SHORT.many()), ([], 4, 4))
        self.assertEqual((one.all_keys(), one.versions().many()), (["a"], 5))

    def test_refused(self):
        store = Store(SHORT)
        store.write(1, "a", rec(n=37, t="ab"))
        store.write(3, "a", rec(n=37, x=9))
        for key in ("a", "b"):
            for number in NO_VERSIONS:
                # Ahead of what is no record, too.
                for one in (rec(n=1, t=""), rec(), 0, "", ()):
                    self.refused(store, BadVersion, store.write, number, key, one)
            for number in range(4):
                for one in (rec(n=91, t=""), rec(n=1), rec(n=1, x=2), rec(n=1, t="", x=2), rec(n=10, t="abcd"), rec(),
                            0, "", (), ("record",), items(), rows()):
                    if not is_of(one, SHORT.shape(number)):
                        self.refused(store, BadValue, store.write, number, key, one)

    def test_a_hundred_and_one_more(self):
        store = Store(SHORT)
        for at, name in enumerate(NAMES[:100]):
            self.assertIsNone(store.write(0, name, rec(n=at % 10, t="")))
        self.assertEqual(store.all_keys(), sorted(NAMES[:100]))
        self.refused(store, Full, store.write, 0, NAMES[100], rec(n=1, t=""))
        # Told ahead of it are these.
        self.refused(store, BadVersion, store.write, 4, NAMES[100], rec(n=1, t=""))
        self.refused(store, BadValue, store.write, 0, NAMES[100], rec(n=1))
        # One that is kept can be written.
        self.assertEqual(store.write(0, NAMES[99], rec(n=0, t="")), (0, 3))
        store.drop(NAMES[5])
        self.assertIsNone(store.write(0, NAMES[100], rec(n=1, t="")))
        self.refused(store, Full, store.write, 0, NAMES[5], rec(n=1, t=""))
        self.assertEqual(len(store.all_keys()), 100)


class ReadTest(StoreTest):
    def test_refused(self):
        store = Store(SHORT)
        store.write(0, "a", rec(n=1, t=""))
        for number in NO_VERSIONS:
            for key in ("a", "b", "", "each", "A"):
                self.refused(store, BadVersion, store.read, number, key)
        for number in range(4):
            for key in ("b", "", "aa", "each", "A"):
                self.refused(store, NoRecord, store.read, number, key)
        for key in ("b", "", "aa", "each", "A"):
            self.refused(store, NoRecord, store.kept, key)
            self.refused(store, NoRecord, store.drop, key)

    def test_dropped(self):
        store = Store(SHORT)
        store.write(1, "a", rec(n=37, t="ab"))
        store.write(1, "b", rec(n=12, t=""))
        self.assertIsNone(store.drop("a"))
        self.assertEqual(store.all_keys(), ["b"])
        for do, arguments in ((store.read, (0, "a")), (store.kept, ("a",)), (store.drop, ("a",))):
            self.refused(store, NoRecord, do, *arguments)
        # Begun anew it has nothing of what was.
        self.assertIsNone(store.write(0, "a", rec(n=3, t="ab")))
        self.assertEqual(store.kept("a"), (0, rec(n=3, t="ab"), ((), (), (), ())))
        self.assertEqual(store.read(1, "a"), rec(n=30, t="ab"))
        self.assertEqual(store.read(1, "b"), rec(n=12, t=""))

    def test_the_askers_own(self):
        store = Store(SHORT)
        store.write(0, "a", rec(n=1, t=""))
        told = store.all_keys()
        self.assertIsInstance(told, list)
        told.append("b")
        self.assertEqual(store.all_keys(), ["a"])
        self.refused(store, NoRecord, store.read, 0, "b")
        kept, elder = store.all_keys(), store.kept("a")
        store.write(0, "b", rec(n=1, t=""))
        store.write(3, "a", rec(n=1, x=0))
        self.assertEqual((kept, elder), (["a"], (0, rec(n=1, t=""), ((), (), (), ()))))


class GrowTest(StoreTest):
    def test_all_are_led_there_without_spares(self):
        store = Store(Versions(FIRST_SHORT, []))
        store.write(0, "a", rec(n=3, t="ab"))
        self.assertEqual(store.grow(SHORT_CHANGES[0]), 1)
        self.assertEqual(store.kept("a"), (0, rec(n=3, t="ab"), ((), ())))
        self.assertEqual(store.read(1, "a"), rec(n=30, t="ab"))
        self.assertEqual(store.write(1, "a", rec(n=37, t="ab")), (1, 1))
        store.write(0, "b", rec(n=1, t=""))
        self.assertEqual(store.write(0, "a", rec(n=3, t="c")), (0, 1))
        self.assertEqual(store.grow(SHORT_CHANGES[1]), 2)
        self.assertEqual(store.grow(SHORT_CHANGES[2]), 3)
        # The home stays, and what was spared.
        self.assertEqual(store.kept("a"), (0, rec(n=3, t="c"), ((), (((), (37,)),), (), ())))
        self.assertEqual([store.read(number, "a") for number in range(4)],
                         [rec(n=3, t="c"), rec(n=37, t="c"), rec(n=37, t="c", x=4), rec(n=37, x=4)])
        self.assertEqual([store.read(number, "b") for number in range(4)],
                         [rec(n=1, t=""), rec(n=10, t=""), rec(n=10, t="", x=4), rec(n=10, x=4)])
        self.assertEqual(store.write(3, "b", rec(n=10, x=4)), None)
        self.assertEqual(store.kept("b"), (3, rec(n=10, x=4), ((), (), (((), ("",)),), ())))

    def test_versions_told_earlier_stay(self):
        store = Store(SHORT)
        elder = store.versions()
        self.assertEqual(store.grow(((), ("drop", "x", 0))), 4)
        self.assertEqual((elder.many(), SHORT.many(), store.versions().many()), (4, 4, 5))
        self.assertEqual(store.versions().change(3), ((), ("drop", "x", 0)))
        self.assertEqual(store.versions().shape(4), record(n=("number", 0, 90)))
        for number in range(4):
            self.assertEqual(elder.shape(number), SHORT.shape(number))

    def test_refused(self):
        store = Store(Versions(FIRST, []))
        store.write(0, "a", RECORD)
        for many in (0, 20):
            for change, refusal in (((("x",), ("put", "x", TEXT, "")), BadPath), (((), ("drop", "q", 0)), BadPiece),
                                    (((), ("turn", "l", ("cut", 1))), BadTurn),
                                    ((("l", "each"), ("put", "x", deep(3), items())), BadKind)):
                self.refused(store, refusal, store.grow, change)
            if many == 0:
                for number, change in enumerate(CHANGES):
                    self.assertEqual(store.grow(change), number + 1)
        self.refused(store, Full, store.grow, ((), ("put", "z", TEXT, "")))
        self.assertEqual(store.read(0, "a"), RECORD)


class KeeperTest(StoreTest):
    def deed(self, store, keeper, chance):
        """Some deed, done to both."""
        key = chance.choice("abc")
        word = chance.choice(["write"] * 8 + ["drop", "grow"])
        changes = CHANGES if keeper.versions.shape(0) == FIRST else None
        if word == "drop" and key in keeper.views:
            keeper.drop(key)
            self.assertIsNone(store.drop(key))
        elif word == "grow" and changes and keeper.versions.many() <= len(changes):
            change = changes[keeper.versions.many() - 1]
            self.assertEqual(store.grow(change), keeper.grow(change))
        elif key in keeper.views:
            number, one = drawn_write(keeper.versions, keeper.views[key], chance)
            self.assertEqual(store.write(number, key, one), keeper.write(number, key, one))
        else:
            number = chance.randrange(keeper.versions.many())
            one = some_value(keeper.versions.shape(number), chance)
            self.assertIsNone(store.write(number, key, one))
            self.assertIsNone(keeper.write(number, key, one))

    def test_whoever_wrote_last(self):
        for seed in range(6):
            for versions in (Versions(FIRST, []), Versions(FIRST, CHANGES[:9]), CHURN):
                chance = random.Random(seed)
                store, keeper = Store(versions), Keeper(versions)
                for at in range(60):
                    self.deed(store, keeper, chance)
                    if at % 6 == 0:
                        self.alike(store, keeper)
                self.alike(store, keeper)

    def test_twenty_changes_behind_one_record(self):
        for home in range(21):
            chance = random.Random(home)
            store, keeper = Store(ALL), Keeper(ALL)
            for number in (home, 20 - home, home // 2, 20):
                one = some_value(ALL.shape(number), chance) if not keeper.views else keeper.views["a"][number]
                self.assertEqual(store.write(number, "a", one), keeper.write(number, "a", one))
                self.alike(store, keeper)


if __name__ == "__main__":
    unittest.main()
