"""Changes of every piece and turn, at spots of every sort, and records for them."""

import collections

from oldhands.changes import change_about, shape_behind
from oldhands.errors import BadKind
from oldhands.kinds import made_kind
from oldhands.pieces import made_values, new_values, old_values, piece_about, record_behind, with_new
from oldhands.shapes import kind_at
from samples import all_values, items, rec, record, rows

CHOICE = ("choice", ("red", "blue"))
BIT = ("number", 0, 1)
SMALL = ("number", -2, 2)
TEXT = ("text", 2)
KEYED = ("rows", "j", record(j=("number", 7, 9), v=BIT), 2)
# Three words are led to two, of which one leads back to what it is not led from.
MERGED = ("words", ("x", "x", "y"), (("y", "low"), ("x", "mid")))
THREE = ("choice", ("top", "mid", "low"))

# Pieces with the elder record kinds, and the signs of which their texts are made.
PIECED = (
    (("put", "x", SMALL, 1), record(c=CHOICE), "a"),
    (("put", "a", ("list", BIT, 2), items(1)), record(c=CHOICE), "a"),
    (("put", "x", ("choice", ("one",)), "one"), record(), "a"),
    (("drop", "n", 1), record(c=CHOICE, n=SMALL), "a"),
    (("drop", "n", 4), record(c=CHOICE, n=("number", 4, 4)), "a"),
    (("drop", "e", rec(a="blue")), record(c=CHOICE, e=record(a=CHOICE)), "a"),
    (("drop", "e", rec()), record(c=CHOICE, e=record()), "a"),
    (("drop", "l", items()), record(c=CHOICE, l=("list", BIT, 2)), "a"),
    (("drop", "l", items()), record(l=("list", BIT, 0)), "a"),
    (("drop", "t", "-"), record(t=TEXT), "a-"),
    (("drop", "t", ""), record(t=("text", 0)), "a-"),
    (("name", "c", "z"), record(c=CHOICE, n=BIT), "a"),
    (("name", "c", "c"), record(c=CHOICE, n=BIT), "a"),
    (("sink", "c", "r"), record(c=CHOICE, n=BIT, r=record(b=BIT)), "a"),
    (("sink", "c", "r"), record(c=CHOICE, r=record()), "a"),
    (("lift", "r", "c"), record(n=BIT, r=record(b=BIT, c=CHOICE)), "a"),
    (("lift", "r", "c"), record(r=record(c=CHOICE)), "a"),
    (("turn", "n", ("bounds", -1, 1)), record(c=CHOICE, n=SMALL), "a"),
    (("turn", "n", ("bounds", -5, 5)), record(c=CHOICE, n=SMALL), "a"),
    (("turn", "n", ("bounds", 1, 5)), record(n=SMALL), "a"),
    (("turn", "n", ("bounds", 3, 4)), record(n=SMALL), "a"),
    (("turn", "n", ("bounds", -9, -4)), record(n=SMALL), "a"),
    (("turn", "n", ("bounds", 5, 6)), record(n=("number", 2, 2)), "a"),
    (("turn", "n", ("scale", 3)), record(c=CHOICE, n=SMALL), "a"),
    (("turn", "n", ("shrink", 2)), record(c=CHOICE, n=("number", -4, 4)), "a"),
    (("turn", "n", ("shrink", 2)), record(n=("number", -4, -4)), "a"),
    (("turn", "n", ("figures", 2)), record(c=CHOICE, n=SMALL), "-12"),
    (("turn", "t", ("number", -1, 10)), record(t=TEXT), "-10"),
    (("turn", "t", ("number", 5, 9)), record(t=("text", 1)), "05"),
    (("turn", "c", MERGED), record(c=THREE, n=BIT), "a"),
    (("turn", "c", ("words", ("a", "b"), (("b", "blue"), ("a", "red")))), record(c=CHOICE, n=BIT), "a"),
    (("turn", "t", ("cut", 1)), record(c=CHOICE, t=TEXT), "a-"),
    (("turn", "t", ("cut", 2)), record(t=TEXT), "a-"),
    (("turn", "t", ("cut", 0)), record(t=TEXT), "a-"),
    (("turn", "t", ("cut", 9)), record(t=TEXT), "a-"),
    (("turn", "l", ("first", 1)), record(c=CHOICE, l=("list", BIT, 2)), "a"),
    (("turn", "l", ("first", 2)), record(l=("list", BIT, 2)), "a"),
    (("turn", "l", ("first", 4)), record(l=("list", BIT, 2)), "a"),
    (("turn", "l", ("first", 1)), record(l=KEYED), "a"),
    (("turn", "l", ("first", 0)), record(l=KEYED), "a"),
    (("turn", "l", ("first", 1)), record(l=("rows", "j", record(j=("number", 7, 7)), 2)), "a"),
    (("turn", "c", ("one", 2)), record(c=CHOICE, n=BIT), "a"),
    (("turn", "l", ("out",)), record(c=CHOICE, l=("list", BIT, 2)), "a"),
    (("turn", "l", ("items", ("cut", 1))), record(l=("list", TEXT, 2)), "a-"),
    (("turn", "l", ("items", ("scale", 9))), record(l=("list", BIT, 2)), "a"),
    (("turn", "l", ("items", ("cut", 1))), record(l=("list", TEXT, 0)), "a-"),
    (("turn", "l", ("items", ("items", ("bounds", 0, 1)))), record(l=("list", ("list", SMALL, 1), 2)), "a"),
    (("split", "f", "-", "x", "y"), record(c=CHOICE, f=("text", 3)), "a-"),
    (("split", "f", "-", "f", "a"), record(f=("text", 1)), "a-"),
    (("split", "f", "-", "x", "y"), record(c=CHOICE, f=("text", 0)), "a-"),
    (("join", "x", "y", "-", "f"), record(c=CHOICE, x=TEXT, y=TEXT), "a-"),
    (("join", "y", "x", "-", "x"), record(x=("text", 1), y=("text", 1)), "a-"),
    (("join", "x", "y", "-", "f"), record(x=("text", 0), y=("text", 0)), "a-"),
    (("part", "n", 3, "p", "q"), record(c=CHOICE, n=("number", -4, 4)), "a"),
    (("whole", "p", "q", 3, "n", -4, 4), record(c=CHOICE, p=("number", -2, 1), q=("number", 0, 2)), "a"),
    (("whole", "p", "q", 3, "n", -6, 4), record(p=("number", -2, 1), q=("number", 0, 2)), "a"),
    (("whole", "q", "p", 3, "p", -4, 5), record(p=("number", 0, 2), q=("number", -2, 1)), "a"),
    (("whole", "p", "q", 3, "n", -6, 5), record(p=("number", -2, 1), q=("number", 0, 2)), "a"),
)

# Keys in whose order neither figures nor lengths count alike.
NUMBERS = (-10, -9, 2, 10)
TEXTS = ("", "10", "9", "each")

# A way to spots: the shape of a line's kind, the path, the record of some lines, and how many lines may be handed in.
Way = collections.namedtuple("Way", "shape path record many")


def with_key(line, key):
    """A line, or a line's kind, with a field k."""
    return ("record", tuple(sorted(line[1] + (("k", key),))))


def with_keys(lines, keys):
    return rows(*[with_key(line, key) for line, key in zip(lines, keys)])


WAYS = {
    "top": Way(lambda line: line, (), lambda some: some[0], (1,)),
    "field": Way(lambda line: record(b=BIT, e=line), ("e",), lambda some: rec(b=1, e=some[0]), (1,)),
    "fields": Way(lambda line: record(b=BIT, e=record(e=line, z=BIT)), ("e", "e"),
                  lambda some: rec(b=1, e=rec(e=some[0], z=1)), (1,)),
    "list": Way(lambda line: record(l=("list", line, 4), z=BIT), ("l", "each"),
                lambda some: rec(l=items(*some), z=1), (0, 1, 2, 3, 4)),
    "numbers": Way(lambda line: record(r=("rows", "k", with_key(line, ("number", -99, 99)), 4), z=BIT), ("r", "each"),
                   lambda some: rec(r=with_keys(some, NUMBERS), z=1), (0, 1, 2, 3, 4)),
    "texts": Way(lambda line: record(r=("rows", "k", with_key(line, ("text", 4)), 4), z=BIT), ("r", "each"),
                 lambda some: rec(r=with_keys(some, TEXTS), z=1), (0, 1, 2, 3, 4)),
    "lists": Way(lambda line: record(l=("list", ("list", line, 3), 3)), ("l", "each", "each"),
                 lambda some: rec(l=items(items(*some[:1]), items(), items(*some[1:]))), (0, 1, 2, 3, 4)),
    "rows in a list": Way(lambda line: record(l=("list", ("rows", "k", with_key(line, ("text", 4)), 3), 3)),
                          ("l", "each", "each"),
                          lambda some: rec(l=items(with_keys(some[:2], TEXTS), rows(), with_keys(some[2:], TEXTS))),
                          (0, 1, 2, 3, 4)),
    "a field of rows": Way(
        lambda line: record(r=("rows", "k", record(e=line, k=("number", -99, 99), n=BIT), 4)), ("r", "each", "e"),
        lambda some: rec(r=rows(*[rec(e=one, k=key, n=1) for one, key in zip(some, NUMBERS)])), (0, 1, 2, 3, 4)),
}


def some_of(some, most):
    """At most so many of a list, spread over it."""
    return [some[at * len(some) // most] for at in range(most)] if len(some) > most else list(some)


def line_rows(lines, many, most):
    """Rows of lines, of these lengths: for each length some that begin everywhere."""
    found = []
    for count in many:
        if count == 0:
            found.append([])
            continue
        for first in range(len(lines)):
            found.append([lines[(first + 3 * at) % len(lines)] for at in range(count)])
    return some_of(found, most)


Sample = collections.namedtuple("Sample", "name change shape records about behind others")


def way_records(way, line, signs, most):
    """Some records of a way's shape of a line's kind."""
    return [way.record(some) for some in line_rows(all_values(line, signs), way.many, most)]


def all_changes(most=6):
    """Every piece at the spots of every way for which it is good, with some records of the shape and of that behind."""
    found = []
    for piece, line, signs in PIECED:
        for name, way in WAYS.items():
            change, shape = (way.path, piece), way.shape(line)
            try:
                behind = shape_behind(change, made_kind(shape))
            except BadKind:
                # Lists within nested ways go too deep.
                continue
            # A line by itself is looked at with nearly each value.
            many = 10 * most if name == "top" else most
            records = way_records(way, line, signs, many)
            others = way_records(way, record_behind(piece, line), signs, many)
            found.append(Sample(name, change, shape, records, change_about(change, shape), behind, others))
    return found


def plain_places(kind, value, path):
    """The document's words for places: a dict of the values by their wheres, in order."""
    found = {(): (kind, value)}
    for entry in path:
        ahead, found = found, {}
        for where, (kind, value) in ahead.items():
            match kind, entry:
                case ("list", inner, _), "each":
                    found.update({where + (at,): (inner, one) for at, one in enumerate(value[1])})
                case ("rows", key, inner, _), "each":
                    found.update({where + (dict(one[1])[key],): (inner, one) for one in value[1]})
                case ("record", fields), name:
                    found[where + (name,)] = (dict(fields)[name], dict(value[1])[name])
    return {where: value for where, (kind, value) in found.items()}


def plain_with(value, path, do):
    """The value with what do makes of each place of a path, one after the other."""
    match value, path:
        case _, ():
            return do(value)
        case ("list" | "rows" as word, some), ("each", *rest):
            return (word, tuple(plain_with(one, tuple(rest), do) for one in some))
        case ("record", pairs), (name, *rest):
            return ("record", tuple((own, plain_with(inner, tuple(rest), do) if own == name else inner)
                                    for own, inner in pairs))


def without(pairs, *names):
    return ("record", tuple(pair for pair in pairs if pair[0] not in names))


def plain_rest(piece, one, side):
    """A record without what a piece takes of it (side 0), or without what it has made in it (side 1)."""
    match piece:
        case ("sink", name, box):
            names, inner = ((name,), ()) if side == 0 else ((), (box, name))
        case ("lift", box, name):
            names, inner = ((), (box, name)) if side == 0 else ((name,), ())
        case _:
            inner, names = (), {
                "put": lambda: ((), (piece[1],)), "drop": lambda: ((piece[1],), ()),
                "name": lambda: ((piece[1],), (piece[2],)), "turn": lambda: ((piece[1],), (piece[1],)),
                "split": lambda: ((piece[1],), piece[3:]), "join": lambda: (piece[1:3], (piece[4],)),
                "part": lambda: ((piece[1],), piece[3:]), "whole": lambda: (piece[1:3], (piece[4],)),
            }[piece[0]]()[side]
    pairs = [(own, without(value[1], inner[1]) if inner and own == inner[0] else value) for own, value in one[1]]
    return without(pairs, *names)


def plain_values_fit(piece, kind, old, new):
    """Whether the new values are what the old ones are led to, or these what the new ones are led back to."""
    if made_values(piece, kind, old) == new:
        return True
    return made_values(piece_about(piece, kind), record_behind(piece, kind), new) == old


def plain_fit(change, shape, one, other):
    """The document's words for fitting, one after the other."""
    path, piece = change
    kind = kind_at(shape, path)
    ours, theirs = plain_places(shape, one, path), plain_places(shape_behind(change, shape), other, path)
    if list(ours) != list(theirs):
        return False
    if plain_with(one, path, lambda spot: plain_rest(piece, spot, 0)) != plain_with(
            other, path, lambda spot: plain_rest(piece, spot, 1)):
        return False
    return all(plain_values_fit(piece, kind, old_values(piece, ours[where]), new_values(piece, theirs[where]))
               for where in ours)


def plain_step(change, shape, one, memory):
    """What a step tells, and its paper."""
    path, piece = change
    kind = kind_at(shape, path)
    theirs = plain_places(shape_behind(change, shape), memory, path)
    paper, done = [], []
    for where, spot in plain_places(shape, one, path).items():
        old = old_values(piece, spot)
        new = new_values(piece, theirs[where]) if where in theirs else None
        if where in theirs and plain_values_fit(piece, kind, old, new):
            paper.append((where, "kept"))
        else:
            new = made_values(piece, kind, old)
            paper.append((where, "made"))
        done.append(with_new(piece, kind, spot, new))
    done.reverse()
    return plain_with(one, path, lambda spot: done.pop()), paper
