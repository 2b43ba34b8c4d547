"""Questions by paths: [11.1], with [0.2], [0.3], [0.4]."""

import random
import unittest

from oldhands.errors import BadQuestion
from oldhands.kinds import made_kind
from oldhands.questions import asked, kind_looked, looked, made_question, passing
from asking import all_leaves, plain_asked, plain_is_question, plain_looked, plain_passes, some_looks
from samples import all_paths, all_values, items, places, put_at, rec, record, rows, some_value

CHOICE = ("choice", ("red", "blue"))
NUMBER = ("number", -9, 9)
TEXT = ("text", 3)
LINE = record(k=TEXT, n=NUMBER)
SHAPE = made_kind(record(
    a=NUMBER, c=CHOICE, e=record(), g=("list", ("list", ("number", 0, 1), 2), 2), l=("list", record(t=TEXT), 3),
    r=("rows", "k", LINE, 4), t=TEXT, w=("list", CHOICE, 2),
))
RECORD = rec(
    a=-7, c="blue", e=rec(), g=items(items(1, 0), items()), l=items(rec(t="a-b"), rec(t="-"), rec(t="")),
    r=rows(rec(k="", n=4), rec(k="each", n=0), rec(k="p", n=-4)), t="b-", w=items("red"),
)
NONE = rec(a=0, c="red", e=rec(), g=items(), l=items(), r=rows(), t="", w=items())
STRANGERS = (0, 1, -1, 2, 9, 10 ** 30, "", "a", "b", "each", "some", "every", "there", "not", "both", "=", "<", "==",
             "-", "--", (), ("a",), ("r", "each"), ("l", "each", "t"), (("ahead", "-"),), (("rest", 2),), ("there", ()),
             ("rest", 2), ("ahead", "-"), (("cut", 1), ("cut", 2)))

GOOD = (
    ("there", ()), ("there", ("a",)), ("there", ("e",)), ("there", ("r",)), ("there", ("r", "each")),
    ("there", ("g", "each", "each")),
    ("some", ("a",), (), "=", -7), ("every", ("a",), (), ">", 10 ** 59), ("some", ("c",), (), "<", "red"),
    ("some", ("c",), (), "=", "green"), ("some", ("t",), (), ">", "a\"\n"),
    ("every", ("t",), (("ahead", "-"),), "=", "b"),
    ("some", ("a",), (("parts", 2), ("rest", 1000)), "<", 5), ("some", ("r", "each", "n"), (("scale", 2),), "=", 8),
    ("every", ("g",), (("out",), ("out",)), "=", 1), ("some", ("g", "each"), (("out",),), "=", 1),
    ("every", ("g",), (("items", ("out",)), ("out",)), "<", 1),
    ("some", ("l", "each", "t"), (("behind", "-"),), "=", ""),
    ("some", ("w",), (("out",), ("words", ("x", "y"), (("y", "blue"), ("x", "red")))), "=", "x"),
    ("some", ("a",), (("figures", 2), ("behind", "-"), ("number", 0, 9), ("rest", 2)), "=", 1),
    ("not", ("there", ("a",))), ("not", ("not", ("some", ("a",), (), "=", 0))),
    ("both", ("there", ()), ("every", ("r", "each", "k"), (), "<", "z")),
    ("both", ("not", ("there", ("w",))), ("both", ("there", ()), ("there", ()))),
)


class QuestionTest(unittest.TestCase):
    def refused(self, do, *arguments):
        for again in range(2):
            with self.subTest(arguments=arguments), self.assertRaises(BadQuestion) as caught:
                do(*arguments)
            self.assertIs(type(caught.exception), BadQuestion)

    def bad(self, question, shape=SHAPE):
        self.refused(made_question, question, shape)
        self.refused(asked, question, shape, RECORD)
        self.refused(passing, question, shape, RECORD)

    def good(self, question, shape=SHAPE):
        with self.subTest(question=question):
            self.assertEqual(made_question(question, shape), question)


class LooksTest(QuestionTest):
    def told(self, looks, kind, behind, pairs):
        self.assertEqual(kind_looked(looks, kind), behind)
        for value, other in pairs:
            with self.subTest(looks=looks, value=value):
                self.assertEqual(looked(looks, kind, value), other)

    def test_no_looks(self):
        for kind in (NUMBER, TEXT, CHOICE, SHAPE, ("list", NUMBER, 0), ("rows", "k", LINE, 4)):
            self.assertEqual(kind_looked((), kind), kind)
        self.assertEqual(looked((), SHAPE, RECORD), RECORD)

    def test_ahead_and_behind(self):
        some = ("", "-", "a", "a-", "-a", "--", "a-b", "-a-", "--a", "---")
        self.told((("ahead", "-"),), TEXT, TEXT,
                  zip(some, ("", "", "a", "a", "", "", "a", "", "", "")))
        self.told((("behind", "-"),), TEXT, TEXT,
                  zip(some, ("", "", "", "", "a", "-", "b", "a-", "-a", "--")))
        self.told((("ahead", " "),), ("text", 60), ("text", 60), (("one two three", "one"), (" one", "")))
        self.told((("behind", "~"),), ("text", 60), ("text", 60), (("one~two~three", "two~three"), ("one", "")))
        self.told((("behind", "a"),), ("text", 0), ("text", 0), (("", ""),))

    def test_parts_and_rest(self):
        self.told((("parts", 3),), NUMBER, ("number", -3, 3),
                  ((-9, -3), (-8, -3), (-7, -3), (-6, -2), (-1, -1), (0, 0), (2, 0), (3, 1), (8, 2), (9, 3)))
        self.told((("rest", 3),), NUMBER, ("number", 0, 2),
                  ((-9, 0), (-8, 1), (-7, 2), (-6, 0), (-1, 2), (0, 0), (2, 2), (3, 0), (8, 2), (9, 0)))
        self.told((("parts", 4),), ("number", -9, -6), ("number", -3, -2), ((-9, -3), (-8, -2), (-6, -2)))
        # Of the kind that part tells, whatever low and high are.
        self.told((("rest", 1000),), ("number", 5, 5), ("number", 0, 999), ((5, 5),))
        big = ("number", -10 ** 30, 10 ** 30)
        self.told((("parts", 1000),), big, ("number", -10 ** 27, 10 ** 27), ((10 ** 30, 10 ** 27), (-1, -1)))
        self.told((("rest", 2),), big, ("number", 0, 1), ((10 ** 30 - 1, 1), (-10 ** 30, 0)))

    def test_turns(self):
        self.told((("bounds", 0, 3),), NUMBER, ("number", 0, 3), ((-9, 0), (2, 2), (9, 3)))
        self.told((("number", 0, 20),), TEXT, ("number", 0, 20), (("7", 7), ("07", 0), ("20", 20), ("x", 0)))
        self.told((("one", 3),), LINE, ("list", LINE, 3), ((rec(k="", n=1), items(rec(k="", n=1))),))
        self.told((("first", 1),), ("rows", "k", LINE, 4), ("rows", "k", LINE, 1),
                  ((dict(RECORD[1])["r"], rows(rec(k="", n=4))),))
        self.told((("items", ("cut", 1)), ("out",)), ("list", TEXT, 2), ("text", 1), ((items("ab", "c"), "a"),))

    def test_one_after_the_other(self):
        self.told((("behind", "-"), ("ahead", "-")), ("text", 9), ("text", 9), (("a-b-c", "b"), ("abc", "")))
        self.told((("ahead", "-"), ("behind", "-")), ("text", 9), ("text", 9), (("a-b-c", ""),))
        self.told((("parts", 10), ("rest", 10)), ("number", 0, 999), ("number", 0, 9), ((472, 7),))
        self.told((("rest", 10), ("parts", 10)), ("number", 0, 999), ("number", 0, 0), ((472, 0),))
        self.told((("figures", 2), ("behind", "-"), ("number", 1, 9)), NUMBER, ("number", 1, 9), ((-7, 7), (7, 1)))
        self.told((("rest", 2), ("figures", 1), ("number", 0, 1), ("scale", 5), ("shrink", 5), ("parts", 2),
                   ("bounds", 3, 4), ("rest", 4)), NUMBER, ("number", 0, 3), ((1, 3), (0, 3)))

    def test_beside_the_words(self):
        kinds = (("number", -4, 4), ("number", 0, 6), ("text", 3), ("choice", ("red", "blue")),
                 ("list", ("number", 0, 1), 2), ("list", ("text", 1), 2), ("list", CHOICE, 1))
        for kind in kinds:
            self.assertTrue(some_looks(kind))
            for looks in some_looks(kind):
                values = all_values(kind)
                behind, others = plain_looked(looks, kind, values)
                self.told(looks, kind, behind, zip(values, others))

    def test_no_looks_of_the_kind(self):
        kinds = (NUMBER, TEXT, ("text", 0), CHOICE, ("list", TEXT, 2), ("list", NUMBER, 0), LINE,
                 ("rows", "k", LINE, 2))
        all_looks = [("ahead", sep) for sep in ("-", "", "--", "\"", "\n", chr(37), 0, (), ("-",))]
        all_looks += [("behind", sep) for sep in (" ", "", "a-", "\"", "\n", chr(37), 1, (), ("-",))]
        all_looks += [(word, k) for word in ("parts", "rest")
                      for k in (2, 1000, 1, 0, -2, 1001, 10 ** 30, "2", "", (), (2,))]
        all_looks += [("ahead",), ("behind",), ("parts",), ("rest",), ("ahead", "-", "-"), ("behind", "-", 0),
                      ("parts", 2, 2), ("rest", 2, "a"), ("ahead", "-", "x", "y"), ("rest", 2, "a", "b"), (),
                      (0,), (2, 2)]
        all_looks += [("split", "-"), ("Ahead", "-"), ("part", 2), ("", "-"), ((), "-"), (("ahead",), "-"),
                      ("items", ("ahead", "-")), ("items", ("rest", 2)), ("items", ("cut", 1)), ("cut", 1), ("out",),
                      ("shrink", 3), ("shrink", 2), ("bounds", 3, 1), ("one", 0), ("one", 8), ("one", 9), 0, 5, "",
                      "out"]
        tried = 0
        for kind in kinds:
            values = [some_value(kind, random.Random(seed)) for seed in range(3)]
            for look in all_looks:
                found = plain_looked((look,), kind, values)
                if found is None:
                    tried += 1
                    self.refused(kind_looked, (look,), kind)
                    self.refused(looked, (look,), kind, values[0])
                    # Wherever it stands.
                    self.refused(kind_looked, (("one", 1), ("out",), look), kind)
                    self.refused(looked, (look, ("one", 1), ("out",)), kind, values[0])
                else:
                    self.told((look,), kind, found[0], zip(values, found[1]))
        self.assertGreater(tried, 300)

    def test_a_look_of_what_the_one_ahead_makes(self):
        self.refused(kind_looked, (("figures", 2), ("rest", 2)), NUMBER)
        self.refused(kind_looked, (("rest", 2), ("ahead", "-")), NUMBER)
        self.refused(kind_looked, (("number", 0, 9), ("ahead", "-")), TEXT)
        # The rest by 3 has the bounds 0 and 2.
        self.assertEqual(kind_looked((("rest", 3), ("shrink", 2)), NUMBER), ("number", 0, 1))
        self.refused(kind_looked, (("rest", 3), ("shrink", 3)), NUMBER)
        self.refused(kind_looked, (("parts", 3), ("shrink", 2)), NUMBER)
        self.refused(kind_looked, (("one", 1),) * 5, NUMBER)
        self.assertEqual(kind_looked((("one", 1),) * 4, NUMBER)[0], "list")

    def test_at_most_eight(self):
        eight = (("cut", 3), ("ahead", "-")) * 4
        self.assertEqual(kind_looked(eight, TEXT), TEXT)
        self.assertEqual(looked(eight, TEXT, "a-b"), "a")
        self.refused(kind_looked, eight + (("cut", 3),), TEXT)
        self.refused(looked, eight + (("cut", 3),), TEXT, "a-b")
        self.refused(kind_looked, eight * 3, TEXT)
        self.good(("some", ("t",), eight, "=", "b"))
        self.bad(("some", ("t",), eight + (("cut", 3),), "=", "b"))
        # Eight of each one, not of all.
        self.good(("both", ("some", ("t",), eight, "=", "b"), ("every", ("t",), eight, "=", "b")))


class FormTest(QuestionTest):
    def test_the_good_ones(self):
        for question in GOOD:
            self.good(question)
            self.assertTrue(plain_is_question(question, SHAPE))

    def test_strangers_in_every_place(self):
        tried = {True: 0, False: 0}
        for question in GOOD:
            for place in places(question):
                for other in STRANGERS:
                    strange = put_at(question, place, other)
                    if not isinstance(strange, tuple):
                        continue
                    is_good = plain_is_question(strange, SHAPE)
                    tried[is_good] += 1
                    with self.subTest(question=strange):
                        if is_good:
                            self.assertEqual(made_question(strange, SHAPE), strange)
                        else:
                            with self.assertRaises(BadQuestion):
                                made_question(strange, SHAPE)
        self.assertGreater(min(tried.values()), 400)

    def test_how_many_parts(self):
        for question in GOOD:
            for count in range(len(question)):
                self.bad(question[:count])
            for more in (0, "", (), ("there", ())):
                self.bad(question + (more,))
        for word in ("", "Some", "any", "all", "each", "is", "or", "there ", 0, (), ("some",)):
            for rest in ((), (("a",),), (("a",), (), "=", 1), (("there", ()),), (("there", ()), ("there", ()))):
                self.bad((word,) + rest)

    def test_paths(self):
        for path in (("q",), ("each",), ("a", "a"), ("a", "each"), ("r", "k"), ("r", "each", "q"),
                     ("r", "each", "each"), ("l", "each", "t", "t"), ("",), ("A",), (0,), ((),), ("r", 0), ("l", 0),
                     ("a",) * 9, 0, "a", "", ("l", "each", ("t",)), ("e", "each")):
            self.bad(("there", path))
            for word in ("some", "every"):
                for told in (1, ""):
                    self.bad((word, path, (), "=", told))
            self.bad(("not", ("there", path)))
            self.bad(("both", ("there", ()), ("there", path)))
            self.bad(("both", ("there", path), ("there", ())))

    def test_signs(self):
        for sign in ("", "==", "<=", ">=", "!=", "<>", " =", "is", 0, 1, (), ("=",), "!", "-"):
            for word in ("some", "every"):
                self.bad((word, ("a",), (), sign, 1))

    def test_what_is_told(self):
        for word in ("some", "every"):
            for sign in "=<>":
                for told in ("", "1", (), (1,), items(1)):
                    self.bad((word, ("a",), (), sign, told))
                    self.bad((word, ("r", "each", "n"), (), sign, told))
                    self.bad((word, ("t",), (("number", 0, 9),), sign, told))
                for told in (0, 1, -1, (), ("a",)):
                    for path in (("t",), ("c",), ("l", "each", "t"), ("r", "each", "k")):
                        self.bad((word, path, (), sign, told))
                    self.bad((word, ("a",), (("figures", 2),), sign, told))
                # A list, rows or a record is compared with nothing.
                for path in ((), ("e",), ("g",), ("l",), ("l", "each"), ("r",), ("r", "each"), ("g", "each"), ("w",)):
                    for told in (0, "", (), rec(), items(), rows()):
                        self.bad((word, path, (), sign, told))
                        self.bad((word, path, (("one", 1),), sign, told))

    def test_looks(self):
        for looks in (0, "", "ahead", ("ahead", "-"), ("out",), (0,), ("",), ((),), (("ahead",),), (("rest", 1),),
                      (("ahead", "-"), ("rest", 2))):
            self.bad(("some", ("a",), looks, "=", 1))
            self.bad(("every", ("t",), looks, "=", ""))

    def test_what_is_no_question_within_one(self):
        for strange in (0, "", "there", (), ("there",), ("some",), ("not",), ("both",), ("not", ("there", ("q",)))):
            self.bad(("not", strange))
            self.bad(("not", ("not", strange)))
            self.bad(("both", strange, ("there", ())))
            self.bad(("both", ("there", ()), strange))
            self.bad(("not", ("both", ("there", ()), ("not", strange))))

    def test_at_most_twenty(self):
        leaf = ("there", ("a",))
        chain, tree = leaf, leaf
        for count in range(2, 26):
            chain = ("not", chain)
            (self.good if count <= 20 else self.bad)(chain)
        # Each both adds itself and one more.
        for count in range(3, 26, 2):
            tree = ("both", tree, leaf) if count % 4 == 3 else ("both", ("some", ("a",), (), "=", 1), tree)
            (self.good if count <= 20 else self.bad)(tree)
            (self.good if count + 1 <= 20 else self.bad)(("not", tree))
            (self.good if count + 3 <= 20 else self.bad)(("both", tree, ("not", leaf)))

    def test_far_too_many(self):
        chain, tree = ("there", ()), ("there", ())
        for at in range(600):
            chain = ("not", chain)
        for at in range(60):
            tree = ("both", tree, tree)
        for strange in (chain, tree, ("both", chain, tree), ("both", tree, chain), ("not", tree)):
            with self.assertRaises(BadQuestion):
                made_question(strange, SHAPE)
            with self.assertRaises(BadQuestion):
                asked(strange, SHAPE, RECORD)


class AskedTest(QuestionTest):
    def told(self, question, told, one=RECORD):
        with self.subTest(question=question):
            for again in range(2):
                self.assertIs(asked(question, SHAPE, one), told)

    def test_some_and_every(self):
        n = ("r", "each", "n")
        for word, sign, told, answer in (
            ("some", "=", 4, True), ("some", "=", 5, False), ("every", "=", 4, False), ("some", "<", -3, True),
            ("some", "<", -4, False), ("every", "<", 5, True), ("every", "<", 4, False), ("some", ">", 3, True),
            ("some", ">", 4, False), ("every", ">", -5, True), ("every", ">", -4, False),
            ("every", ">", -10 ** 59, True),
        ):
            self.told((word, n, (), sign, told), answer)
        self.told(("every", n, (("bounds", 7, 9),), "=", 7), True)
        self.told(("some", n, (("rest", 4),), ">", 0), False)

    def test_no_places(self):
        for path, told in ((("r", "each", "n"), 0), (("l", "each", "t"), ""), (("g", "each", "each"), 0)):
            for sign in "=<>":
                self.told(("some", path, (), sign, told), False, NONE)
                self.told(("every", path, (), sign, told), True, NONE)
            self.told(("there", path), False, NONE)
            self.told(("there", path), True)
            self.told(("there", path[:1]), True, NONE)
            self.told(("there", path[:2]), False, NONE)
        # The least value stands for none where a look takes the first item.
        self.told(("some", ("g",), (("out",), ("out",)), "=", 0), True, NONE)
        self.told(("there", ("g", "each", "each")), False, rec(**(dict(NONE[1]) | {"g": items(items(), items())})))

    def test_there(self):
        self.told(("there", ()), True)
        self.told(("there", ()), True, NONE)
        self.told(("there", ("e",)), True)

    def test_texts_as_python_orders_them(self):
        for own, sign, told, answer in (
            ("10", "<", "9", True), ("", "<", "a", True), ("B", "<", "a", True), ("ab", ">", "a", True),
            ("a", "<", "a-", True), ("~", ">", "z", True), (" ", "<", "!", True), ("a", "=", "a", True),
            ("a", "=", "a ", False), ("a", "<", "a", False), ("a", ">", "a", False), ("a", ">", "\"\n", True),
        ):
            self.told(("some", ("t",), (), sign, told), answer, rec(**(dict(NONE[1]) | {"t": own})))
        # Words are texts, whatever order their choice has.
        self.told(("some", ("c",), (), "<", "red"), True)
        self.told(("some", ("c",), (), ">", "blue"), True, NONE)
        self.told(("some", ("c",), (), "=", "blue"), True)
        self.told(("some", ("c",), (), ">", "bl"), True)

    def test_not_and_both(self):
        yes, no = ("there", ()), ("some", ("a",), (), "=", 0)
        self.told(("not", yes), False)
        self.told(("not", no), True)
        self.told(("not", ("not", yes)), True)
        for one, other, told in ((yes, yes, True), (yes, no, False), (no, yes, False), (no, no, False)):
            self.told(("both", one, other), told)
            self.told(("not", ("both", one, other)), not told)
            self.told(("both", ("not", one), ("not", other)), (one, other) == (no, no))

    def test_every_path_and_look_beside_the_words(self):
        records = [some_value(SHAPE, random.Random(seed)) for seed in range(6)] + [RECORD, NONE]
        leaves = all_leaves(SHAPE, records)
        self.assertGreater(len(leaves), 300)
        self.assertEqual({leaf[1] for leaf in leaves}, set(all_paths(SHAPE)))
        answers = {True: 0, False: 0}
        for leaf in leaves:
            for one in records:
                told = asked(leaf, SHAPE, one)
                answers[told] += 1
                with self.subTest(leaf=leaf, one=one):
                    self.assertIs(told, plain_asked(leaf, SHAPE, one))
                    if leaf[0] != "there":
                        found = plain_passes(leaf, SHAPE, one)
                        self.assertEqual(passing(leaf, SHAPE, one), [where for where in found if found[where]])
        self.assertGreater(min(answers.values()), 600)

    def test_questions_within_questions_beside_the_words(self):
        chance = random.Random(5)
        records = [some_value(SHAPE, chance) for at in range(8)]
        leaves = all_leaves(SHAPE, records)
        for at in range(300):
            question = chance.choice(leaves)
            for more in range(chance.randrange(5)):
                question = ("not", question) if chance.random() < 0.4 else ("both", chance.choice(leaves), question)
            for one in records[:4]:
                self.assertIs(asked(question, SHAPE, one), plain_asked(question, SHAPE, one))


class PassingTest(QuestionTest):
    def told(self, question, told, one=RECORD):
        with self.subTest(question=question):
            for again in range(2):
                self.assertEqual(passing(question, SHAPE, one), told)
                self.assertIsInstance(passing(question, SHAPE, one), list)

    def test_in_order(self):
        for word in ("some", "every"):
            self.told((word, ("r", "each", "n"), (), ">", -9), [("r", "", "n"), ("r", "each", "n"), ("r", "p", "n")])
            self.told((word, ("r", "each", "n"), (("rest", 4),), "=", 0),
                      [("r", "", "n"), ("r", "each", "n"), ("r", "p", "n")])
            self.told((word, ("r", "each", "n"), (), "<", 1), [("r", "each", "n"), ("r", "p", "n")])
            self.told((word, ("l", "each", "t"), (("ahead", "-"),), "=", ""), [("l", 1, "t"), ("l", 2, "t")])
            self.told((word, ("g", "each", "each"), (), "=", 1), [("g", 0, 0)])
            self.told((word, ("a",), (), "=", -7), [("a",)])
            self.told((word, ("a",), (), "=", 7), [])
            self.told((word, ("r", "each", "n"), (), "=", 0), [], NONE)

    def test_another_one_is_refused(self):
        for question in (("there", ()), ("there", ("r", "each")), ("not", ("some", ("a",), (), "=", 1)),
                         ("both", ("some", ("a",), (), "=", 1), ("some", ("a",), (), "=", 1))):
            self.good(question)
            self.refused(passing, question, SHAPE, RECORD)

    def test_the_askers_own(self):
        question = ("some", ("r", "each", "n"), (), ">", 0)
        told = passing(question, SHAPE, RECORD)
        told.append(())
        self.assertEqual(passing(question, SHAPE, RECORD), [("r", "", "n")])


if __name__ == "__main__":
    unittest.main()
