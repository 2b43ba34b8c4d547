"""How kinds, values, turns, pieces, paths and changes are written: [13.1], [13.2], [13.3], with [0.2]."""

import random
import unittest

from oldhands.words import change_text, kind_text, path_text, piece_text, turn_text, value_text
from writing import (
    KINDS, PATHS, PIECES, TURNS, VALUES, form_change, form_kind, form_path, form_piece, form_turn, form_value,
    plain_sorts,
    spaced, written_changes,
)


class WordsTest(unittest.TestCase):
    def tells(self, do, pairs):
        for thing, text in pairs:
            with self.subTest(thing=thing):
                for again in range(2):
                    self.assertEqual(do(thing), text)

    def test_kinds(self):
        self.tells(kind_text, KINDS)

    def test_values(self):
        self.tells(value_text, VALUES)

    def test_turns(self):
        self.tells(turn_text, TURNS)

    def test_pieces(self):
        self.tells(piece_text, PIECES)

    def test_paths(self):
        self.tells(path_text, PATHS)

    def test_changes(self):
        self.tells(change_text, written_changes())
        self.tells(change_text, [(((), ("drop", "a", 0)), "/ drop(a, 0)"),
                                 ((("b", "each"), ("name", "a", "c")), "/b/each name(a, c)")])

    def test_drawn_forms_are_written_as_the_patterns_tell(self):
        for sort, drawn, do in (
            ("kind", form_kind, kind_text), ("value", form_value, value_text), ("turn", form_turn, turn_text),
            ("piece", form_piece, piece_text), ("path", form_path, path_text), ("change", form_change, change_text),
        ):
            for seed in range(150):
                thing = drawn(random.Random(seed))
                with self.subTest(thing=thing):
                    text = do(thing)
                    self.assertIn(sort, plain_sorts(text))
                    self.assertEqual(spaced(text), text)
                    self.assertEqual(do(thing), text)


if __name__ == "__main__":
    unittest.main()
