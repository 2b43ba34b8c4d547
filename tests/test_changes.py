"""Changes: [5.1], of [5.2] the change about, and the order of refusals, [0.4]."""

import unittest

from oldhands.changes import change_about, shape_behind
from oldhands.errors import BadKind, BadPath, BadPiece, BadTurn
from oldhands.kinds import kind_many, made_kind
from oldhands.shapes import kind_at
from samples import all_paths, deep, items, letters, rec, record, rows

NUMBER = ("number", 0, 9)
TEXT = ("text", 4)
CHOICE = ("choice", ("red", "blue"))
LINE = record(a=NUMBER, b=TEXT, c=CHOICE)


def shape_with(line):
    """A shape with a record kind at each sort of way, the lists, rows and fields around it as they are."""
    return record(
        e=line,
        l=("list", line, 3),
        m=("list", ("list", line, 1), 2),
        r=("rows", "b", line, 4),
        s=("list", ("rows", "a", line, 2), 0),
        t=TEXT,
    )


SHAPE = made_kind(shape_with(LINE))
PATHS = (("e",), ("l", "each"), ("m", "each", "each"), ("r", "each"), ("s", "each", "each"))

# Pieces good for LINE that touch neither a nor b, and what they make of it.
PIECES = (
    (("put", "x", TEXT, "q"), record(a=NUMBER, b=TEXT, c=CHOICE, x=TEXT)),
    (("drop", "c", "blue"), record(a=NUMBER, b=TEXT)),
    (("name", "c", "z"), record(a=NUMBER, b=TEXT, z=CHOICE)),
    (("name", "c", "c"), LINE),
    (("turn", "c", ("words", ("x", "x"), (("x", "blue"),))), record(a=NUMBER, b=TEXT, c=("choice", ("x",)))),
    (("put", "x", record(), rec()), record(a=NUMBER, b=TEXT, c=CHOICE, x=record())),
)
# Those that take or make a or b.
OF_NUMBER = (("drop", "a", 3), ("name", "a", "x"), ("name", "a", "a"), ("turn", "a", ("bounds", 0, 5)),
             ("part", "a", 3, "x", "y"), ("part", "a", 3, "a", "y"), ("part", "a", 3, "x", "a"))
OF_TEXT = (("drop", "b", "q"), ("name", "b", "x"), ("name", "b", "b"), ("turn", "b", ("cut", 1)),
           ("split", "b", "-", "x", "y"), ("split", "b", "-", "b", "y"), ("split", "b", "-", "x", "b"))


def plain_put(kind, path, other):
    """The kind with another one at a path, by the document's words."""
    match kind, path:
        case _, ():
            return other
        case ("list", inner, most), (_, *rest):
            return ("list", plain_put(inner, tuple(rest), other), most)
        case ("rows", key, inner, most), (_, *rest):
            return ("rows", key, plain_put(inner, tuple(rest), other), most)
        case ("record", fields), (name, *rest):
            return ("record", tuple((own, plain_put(inner, tuple(rest), other) if own == name else inner)
                                    for own, inner in fields))


class ChangesTest(unittest.TestCase):
    def refused(self, change, shape, refusal):
        with self.subTest(change=change, shape=shape):
            for again in range(2):
                with self.assertRaises(refusal):
                    shape_behind(change, shape)
                with self.assertRaises(refusal):
                    change_about(change, shape)

    def leads(self, change, shape, behind, about):
        with self.subTest(change=change, shape=shape):
            before = repr((change, shape))
            self.assertEqual(shape_behind(change, shape), behind)
            self.assertEqual(made_kind(shape_behind(change, shape)), behind)
            self.assertEqual(change_about(change, shape), about)
            self.assertEqual(shape_behind(about, behind), shape)
            self.assertEqual(change_about(about, behind), change)
            self.assertEqual(repr((change, shape)), before)


class GoodChangesTest(ChangesTest):
    def test_at_the_empty_path(self):
        self.leads(((), ("put", "x", TEXT, "q")), LINE, record(a=NUMBER, b=TEXT, c=CHOICE, x=TEXT),
                   ((), ("drop", "x", "q")))
        self.leads(((), ("drop", "a", 3)), LINE, record(b=TEXT, c=CHOICE), ((), ("put", "a", NUMBER, 3)))
        self.leads(((), ("name", "b", "x")), LINE, record(a=NUMBER, c=CHOICE, x=TEXT), ((), ("name", "x", "b")))
        self.leads(((), ("split", "b", "-", "b", "x")), LINE, record(a=NUMBER, b=TEXT, c=CHOICE, x=TEXT),
                   ((), ("join", "b", "x", "-", "b")))
        self.leads(((), ("part", "a", 3, "x", "y")), LINE,
                   record(b=TEXT, c=CHOICE, x=("number", 0, 3), y=("number", 0, 2)),
                   ((), ("whole", "x", "y", 3, "a", 0, 9)))
        self.leads(((), ("turn", "a", ("scale", 10))), LINE, record(a=("number", 0, 90), b=TEXT, c=CHOICE),
                   ((), ("turn", "a", ("shrink", 10))))
        self.leads(((), ("put", "x", TEXT, "")), record(), record(x=TEXT), ((), ("drop", "x", "")))

    def test_sink_and_lift(self):
        kind = record(a=NUMBER, m=record(b=TEXT))
        behind = record(m=record(a=NUMBER, b=TEXT))
        self.leads(((), ("sink", "a", "m")), kind, behind, ((), ("lift", "m", "a")))
        self.leads((("x", "each"), ("sink", "a", "m")), record(x=("list", kind, 2)), record(x=("list", behind, 2)),
                   (("x", "each"), ("lift", "m", "a")))
        keyed = record(a=NUMBER, k=TEXT, m=record(b=TEXT))
        self.leads((("x", "each"), ("sink", "a", "m")), record(x=("rows", "k", keyed, 2)),
                   record(x=("rows", "k", record(k=TEXT, m=record(a=NUMBER, b=TEXT)), 2)),
                   (("x", "each"), ("lift", "m", "a")))

    def test_in_records_and_in_the_items_of_lists_and_rows(self):
        for path in PATHS:
            for piece, behind in PIECES:
                told = shape_behind((path, piece), SHAPE)
                self.assertEqual(kind_at(told, path), behind)
                self.leads((path, piece), SHAPE, plain_put(SHAPE, path, behind),
                           change_about((path, piece), SHAPE))
                self.assertEqual(change_about((path, piece), SHAPE)[0], path)

    def test_the_piece_about_is_of_the_elder_spots(self):
        for path in PATHS:
            self.assertEqual(change_about((path, ("drop", "c", "blue")), SHAPE), (path, ("put", "c", CHOICE, "blue")))
        for path in PATHS[:2] + PATHS[4:]:
            self.assertEqual(change_about((path, ("turn", "b", ("cut", 1))), SHAPE), (path, ("turn", "b", ("cut", 4))))

    def test_only_what_the_path_leads_to_changes(self):
        told = shape_behind((("l", "each"), ("drop", "c", "red")), SHAPE)
        for path in all_paths(SHAPE):
            if path[:1] not in ((), ("l",)):
                self.assertEqual(kind_at(told, path), kind_at(SHAPE, path))
        self.assertEqual(kind_at(told, ("l",)), ("list", record(a=NUMBER, b=TEXT), 3))

    def test_keys_of_other_rows(self):
        # b is the key of r, a that of the rows in s; elsewhere both are fields like any other.
        for path in PATHS:
            for pieces, keyed in ((OF_NUMBER, ("s", "each", "each")), (OF_TEXT, ("r", "each"))):
                if path != keyed:
                    for piece in pieces:
                        shape_behind((path, piece), SHAPE)
                        about = change_about((path, piece), SHAPE)
                        self.assertEqual(shape_behind(about, shape_behind((path, piece), SHAPE)), SHAPE)

    def test_a_record_within_the_items_of_rows(self):
        kind = record(r=("rows", "k", record(e=record(k=TEXT), k=TEXT), 2))
        self.leads((("r", "each", "e"), ("drop", "k", "")), kind,
                   record(r=("rows", "k", record(e=record(), k=TEXT), 2)), (("r", "each", "e"), ("put", "k", TEXT, "")))
        self.leads((("r", "each", "e"), ("name", "k", "j")), kind,
                   record(r=("rows", "k", record(e=record(j=TEXT), k=TEXT), 2)),
                   (("r", "each", "e"), ("name", "j", "k")))

    def test_rows_as_a_field(self):
        # The piece takes the rows, not a key of theirs.
        kind = record(b=TEXT, r=("rows", "b", record(b=TEXT), 2))
        self.leads(((), ("turn", "r", ("first", 1))), kind, record(b=TEXT, r=("rows", "b", record(b=TEXT), 1)),
                   ((), ("turn", "r", ("first", 2))))
        self.leads(((), ("drop", "r", rows())), kind, record(b=TEXT), ((), ("put", "r", kind_at(kind, ("r",)), rows())))
        self.leads(((), ("drop", "b", "")), kind, record(r=("rows", "b", record(b=TEXT), 2)),
                   ((), ("put", "b", TEXT, "")))


class BadPathTest(ChangesTest):
    def test_paths_that_lead_nowhere(self):
        for path in (("x",), ("each",), ("e", "x"), ("e", "each"), ("l", "a"), ("l", "each", "each"), ("r", "b"),
                     ("e", "a", "b"), ("t", "each"), ("",), ("E",), ("e", ""), ("abcdefghi",), ("e",) * 9,
                     ("each",) * 9):
            self.refused((path, ("put", "x", TEXT, "")), SHAPE, BadPath)

    def test_paths_to_no_record_kind(self):
        for path in all_paths(SHAPE):
            if kind_at(SHAPE, path)[0] != "record":
                self.refused((path, ("put", "x", TEXT, "")), SHAPE, BadPath)

    def test_what_is_no_pair_of_a_path_and_a_piece(self):
        piece = ("put", "x", TEXT, "")
        for change in ((), ((),), ((), piece, piece), piece, (0, piece), ("e", piece), (piece, ()), ((0,), piece),
                       ((("e",),), piece)):
            self.refused(change, SHAPE, BadPath)

    def test_ahead_of_all_else(self):
        for piece in ((), ("drop", "x", 0), ("turn", "c", ()), ("turn", "c", ("cut", 1)), 0, "drop", ("drop", "b", "")):
            for path in (("x",), ("l",), ("r",), ("t",), ("r", "each", "b")):
                self.refused((path, piece), SHAPE, BadPath)


class BadPieceTest(ChangesTest):
    def test_pieces_that_are_none_of_the_spots(self):
        for path in PATHS:
            for piece in ((), ("drop", "x", ""), ("drop", "c", "green"), ("put", "a", TEXT, ""), ("put", "x", TEXT, 0),
                          ("name", "c", "a"), ("name", "c", "each"), ("split", "c", "-", "x", "y"), 0, "drop",
                          ("sink", "c", "a"), ("lift", "b", "a"), ("turn", "x", ()), ("turn", "c", 0)):
                self.refused((path, piece), SHAPE, BadPiece)
        self.refused(((), ("drop", "a", 0)), SHAPE, BadPiece)
        self.refused(((), ("put", "e", TEXT, "")), SHAPE, BadPiece)

    def test_turns_that_are_none_of_the_field(self):
        for path in PATHS:
            for turn in ((), ("cut", 1), ("words", (), ()), ("one", 0), ("one", 9), ("out",)):
                self.refused((path, ("turn", "c", turn)), SHAPE, BadTurn)
        # The key's turn is looked at ahead of its being the key.
        self.refused((("r", "each"), ("turn", "b", ("scale", 2))), SHAPE, BadTurn)
        self.refused((("r", "each"), ("turn", "b", ())), SHAPE, BadTurn)
        self.refused((("s", "each", "each"), ("turn", "a", ("shrink", 2))), SHAPE, BadTurn)

    def test_the_key_of_rows(self):
        for piece in OF_TEXT:
            self.refused((("r", "each"), piece), SHAPE, BadPiece)
        for piece in OF_NUMBER:
            self.refused((("s", "each", "each"), piece), SHAPE, BadPiece)
        for piece in (("put", "b", TEXT, ""), ("name", "c", "b"), ("join", "b", "b", "-", "x")):
            self.refused((("r", "each"), piece), SHAPE, BadPiece)

    def test_the_key_of_rows_joined_made_whole_and_sunk(self):
        line = record(k=TEXT, m=record(), t=TEXT)
        kind = record(r=("rows", "k", line, 2))
        for piece in (("join", "k", "t", "-", "x"), ("join", "t", "k", "-", "x"), ("join", "k", "t", "-", "k"),
                      ("join", "t", "k", "-", "k"), ("sink", "k", "m")):
            self.refused((("r", "each"), piece), kind, BadPiece)
        shape_behind((("r", "each"), ("sink", "t", "m")), kind)
        numbers = record(k=("number", 0, 3), q=("number", 0, 2), z=("number", 0, 3))
        by_k, by_q = record(r=("rows", "k", numbers, 2)), record(r=("rows", "q", numbers, 2))
        for piece in (("whole", "k", "q", 3, "x", 0, 9), ("whole", "k", "q", 3, "k", 0, 9)):
            self.refused((("r", "each"), piece), by_k, BadPiece)
        self.refused((("r", "each"), ("whole", "z", "q", 3, "x", 0, 9)), by_q, BadPiece)
        self.assertEqual(shape_behind((("r", "each"), ("whole", "z", "q", 3, "x", 0, 9)), by_k),
                         record(r=("rows", "k", record(k=("number", 0, 3), x=NUMBER), 2)))
        self.refused((("r", "each"), ("lift", "m", "k")),
                     record(r=("rows", "k", record(k=TEXT, m=record(k=TEXT)), 2)), BadPiece)

    def test_a_turn_of_the_key_to_its_own_kind(self):
        self.refused((("r", "each"), ("turn", "b", ("cut", 4))), SHAPE, BadPiece)

    def test_a_record_kind_behind_that_is_none(self):
        full = record(l=("list", letters(8), 1))
        self.refused((("l", "each"), ("put", "x", TEXT, "")), full, BadPiece)
        self.refused(((), ("put", "x", deep(5), items())), record(), BadPiece)
        self.refused((("l", "each"), ("put", "x", deep(5), items())), record(l=("list", record(), 1)), BadPiece)


class BadKindTest(ChangesTest):
    def test_too_deep(self):
        kind = record(l=("list", record(a=TEXT), 1))
        self.leads((("l", "each"), ("put", "x", deep(2), items())), kind,
                   record(l=("list", record(a=TEXT, x=deep(2)), 1)), (("l", "each"), ("drop", "x", items())))
        self.refused((("l", "each"), ("put", "x", deep(3), items())), kind, BadKind)
        self.refused((("l", "each"), ("put", "x", deep(4), items())), kind, BadKind)
        self.refused((("m", "each", "each"), ("turn", "c", ("one", 1))), SHAPE, BadKind)
        inner = record(e=record(e=record(a=TEXT, m=record())))
        self.refused((("e", "e"), ("put", "x", deep(3), items())), inner, BadKind)
        self.refused((("e", "e"), ("sink", "a", "m")), record(e=record(e=record(a=("list", TEXT, 1), m=record()))),
                     BadKind)
        self.assertEqual(shape_behind((("e", "e"), ("sink", "a", "m")), inner),
                         record(e=record(e=record(m=record(a=TEXT)))))

    def test_too_many(self):
        inner = letters(7)
        kind = made_kind(record(a=inner, b=letters(8), c=letters(8), d=letters(8), e=TEXT, f=TEXT, g=TEXT))
        self.assertEqual(kind_many(kind), 39)
        self.assertEqual(kind_many(shape_behind((("a",), ("put", "x", TEXT, "")), kind)), 40)
        self.refused((("a",), ("put", "x", ("list", TEXT, 0), items())), kind, BadKind)
        more = made_kind(record(**dict(kind[1]), h=TEXT))
        self.refused((("a",), ("put", "x", TEXT, "")), more, BadKind)
        self.refused((("a",), ("part", "a", 2, "x", "y")), more, BadKind)
        self.refused((("a",), ("turn", "a", ("one", 1))), more, BadKind)
        # At the empty path it is the record kind behind that is none.
        self.refused(((), ("turn", "e", ("one", 2))), shape_behind((("a",), ("put", "x", TEXT, "")), kind), BadPiece)

    def test_behind_all_else(self):
        kind = record(r=("rows", "k", record(a=TEXT, k=TEXT), 1))
        deepest = ("put", "x", deep(3), items())
        self.refused((("r", "each"), deepest), kind, BadKind)
        self.refused((("r",), deepest), kind, BadPath)
        self.refused((("r", "each"), ("put", "a", deep(3), items())), kind, BadPiece)
        self.refused((("r", "each"), ("turn", "a", ("out",))), kind, BadTurn)
        listed = record(r=("rows", "k", record(a=deep(2), k=TEXT), 1))
        self.refused((("r", "each"), ("turn", "a", ("one", 1))), listed, BadKind)
        self.refused((("r", "each"), ("turn", "a", ("one", 9))), listed, BadTurn)
        # The key's list would be a kind too many; being the key goes first.
        more = made_kind(record(b=letters(8), c=letters(8), d=letters(8), e=letters(6),
                                r=("rows", "k", record(k=TEXT, z=TEXT), 1), s=TEXT))
        self.assertEqual(kind_many(more), 40)
        self.refused((("r", "each"), ("turn", "k", ("one", 1))), more, BadPiece)
        self.refused((("r", "each"), ("split", "k", "-", "x", "y")), more, BadPiece)
        self.refused((("r", "each"), ("split", "z", "-", "x", "y")), more, BadKind)


if __name__ == "__main__":
    unittest.main()
