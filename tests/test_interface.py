"""The names and arguments of the interface are there as the document has them."""

import importlib
import inspect
import unittest

FUNCTIONS = """
kinds: is_name(text) made_kind(kind) kind_many(kind) kind_depth(kind) field_kind(kind, name)
values: is_of(value, kind) made_value(value, kind) least_value(kind) field_of(record, name)
values: with_fields(record, names, values) without_fields(record, names)
shapes: kind_at(kind, path) kind_with(kind, path, other)
spots: wheres(kind, value, path) value_at(kind, value, where) with_values(kind, value, some) spots(kind, record, path)
turns: kind_behind(turn, kind) turn_about(turn, kind) turned(turn, kind, value) twin_of(turn, kind, value)
turns: figures_of(number) number_of(text)
pieces: record_behind(piece, kind) piece_about(piece, kind) old_values(piece, record) new_values(piece, record)
pieces: made_values(piece, kind, values) with_new(piece, kind, record, values)
changes: shape_behind(change, shape) change_about(change, shape)
leading: led(change, shape, record) twin_record(change, shape, record) lost(change, shape, record)
leading: restored(change, shape, record, some)
steps: fit(change, shape, record, other) step(change, shape, record, memory) step_paper(change, shape, record, memory)
judge: shows_step(change, shape, record, memory, outcome, paper)
versions: led_between(versions, start, goal, record) lost_between(versions, start, goal, record)
versions: restored_between(versions, start, goal, record, some)
losses: loser(change, shape)
views: begun_views(versions, number, record) written(versions, views, number, record) are_views(versions, views)
views: turned_stretch(before, after)
viewjudge: write_papers(versions, views, number, record) shows_write(versions, views, number, record, after, papers)
spares: kept_of(versions, views, home) views_of(versions, kept) read_kept(versions, kept, number)
spares: moved_home(versions, kept, home) is_kept(versions, kept) spare_many(kept)
questions: made_question(question, shape) kind_looked(looks, kind) looked(looks, kind, value)
questions: asked(question, shape, record) passing(question, shape, record)
backward: question_back(question, change, shape) question_between(versions, start, goal, question)
rowsteps: touches(change) meet(one, other) step_done(shape, row, step)
rowforms: is_short(shape, row) shortened(shape, row) row_shows(shape, row, steps, outcome)
words: kind_text(kind) value_text(value) turn_text(turn) piece_text(piece) path_text(path) change_text(change)
texts: read_kind(text) read_value(text, kind) read_turn(text) read_piece(text) read_path(text) read_change(text)
desk: deed_text(deed) where_text(where)
"""

METHODS = """
versions: Versions(shape, changes) shape(number) change(number) many() grown(change)
store: Store(versions) write(number, key, record) read(number, key) kept(key) drop(key) all_keys() grow(change)
store: Store(versions) versions()
office: Office(versions) do(deed) back() again() deeds() read(version, key) all_keys() versions()
hands: Hand(office, version) read(key) write(key, record) set_at(key, where, value) drop(key) all_keys()
desk: Desk(text) ask(row)
"""


def told(text):
    """For each row the module, and pairs of a name and its arguments."""
    for row in text.strip().splitlines():
        module, rest = row.split(": ", 1)
        pairs = [part.split("(") for part in rest.rstrip(")").split(") ")]
        told_pairs = [(name, some.split(", ") if some else []) for name, some in pairs]
        yield importlib.import_module(f"oldhands.{module}"), told_pairs


def arguments(thing):
    parameters = inspect.signature(thing).parameters.values()
    assert all(one.default is one.empty and one.kind is one.POSITIONAL_OR_KEYWORD for one in parameters)
    return [one.name for one in parameters]


class InterfaceTest(unittest.TestCase):
    def test_functions(self):
        for module, pairs in told(FUNCTIONS):
            for name, some in pairs:
                with self.subTest(module=module.__name__, name=name):
                    self.assertTrue(inspect.isfunction(getattr(module, name)))
                    self.assertEqual(arguments(getattr(module, name)), some)

    def test_classes_and_their_methods(self):
        for module, pairs in told(METHODS):
            made = getattr(module, pairs[0][0])
            self.assertTrue(inspect.isclass(made))
            self.assertEqual(arguments(made), pairs[0][1])
            for name, some in pairs[1:]:
                with self.subTest(module=module.__name__, name=name):
                    self.assertEqual(arguments(getattr(made, name)), ["self"] + some)


if __name__ == "__main__":
    unittest.main()
