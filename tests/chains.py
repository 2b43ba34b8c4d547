"""Versions of many changes, views of them, and the document's words for views, one after the other."""

import random

from oldhands.changes import change_about, shape_behind
from oldhands.kinds import made_kind
from oldhands.leading import led
from oldhands.pieces import made_values, new_values, old_values
from oldhands.shapes import kind_at
from oldhands.values import is_of
from oldhands.versions import Versions
from samples import items, nudged, rec, record, rows, some_value
from ways import plain_fit, plain_places, plain_step

NUMBER = ("number", -9, 9)
TEXT = ("text", 5)
CHOICE = ("choice", ("red", "blue"))
LINE = record(k=TEXT, n=NUMBER)
FIRST = made_kind(record(a=NUMBER, c=CHOICE, l=("list", record(n=NUMBER), 4), r=("rows", "k", LINE, 4), t=TEXT))

# Changes of every piece, some of which lose on, some back, some both; in all twenty.
CHANGES = (
    ((), ("turn", "a", ("bounds", -5, 20))),
    (("l", "each"), ("turn", "n", ("scale", 10))),
    (("r", "each"), ("drop", "n", 0)),
    ((), ("split", "t", "-", "t", "u")),
    ((), ("put", "x", NUMBER, 4)),
    ((), ("name", "x", "y")),
    (("r", "each"), ("put", "m", record(), rec())),
    (("r", "each", "m"), ("put", "z", CHOICE, "blue")),
    (("r", "each"), ("lift", "m", "z")),
    ((), ("turn", "c", ("words", ("x", "x"), (("x", "blue"),)))),
    ((), ("part", "a", 3, "a", "b")),
    (("l", "each"), ("put", "s", TEXT, "q")),
    (("l", "each"), ("turn", "n", ("bounds", -20, 20))),
    ((), ("join", "u", "t", ".", "t")),
    ((), ("turn", "l", ("first", 2))),
    ((), ("drop", "c", "x")),
    ((), ("whole", "a", "b", 3, "a", -5, 20)),
    (("r", "each"), ("sink", "z", "m")),
    ((), ("turn", "t", ("cut", 2))),
    ((), ("turn", "y", ("figures", 2))),
)
ALL = Versions(FIRST, CHANGES)
RECORD = rec(
    a=-9, c="red", l=items(rec(n=3), rec(n=-7), rec(n=9)), r=rows(rec(k="", n=4), rec(k="p", n=0), rec(k="q", n=-1)),
    t="ab-c",
)

# Fields that come and go soon, so that what is written at a version often stays among few.
CHURN = Versions(record(r=("rows", "k", record(k=TEXT), 3), w=NUMBER), [
    ((), ("put", "a", NUMBER, 1)),
    (("r", "each"), ("put", "x", NUMBER, 2)),
    ((), ("turn", "a", ("scale", 10))),
    ((), ("put", "b", TEXT, "")),
    ((), ("drop", "a", 0)),
    (("r", "each"), ("turn", "x", ("figures", 2))),
    ((), ("name", "b", "c")),
    (("r", "each"), ("drop", "x", "7")),
    ((), ("put", "a", NUMBER, 3)),
    ((), ("drop", "c", "old")),
    (("r", "each"), ("put", "y", CHOICE, "red")),
    ((), ("turn", "w", ("bounds", 0, 3))),
    ((), ("drop", "w", 2)),
])


def plain_shapes(first, changes):
    found = [first]
    for change in changes:
        found.append(shape_behind(change, found[-1]))
    return found


SHAPES = plain_shapes(FIRST, CHANGES)


def to_next(versions, near, far):
    """The change that leads from a version to its neighbour, and the shape from which it leads."""
    if near < far:
        return versions.change(near), versions.shape(near)
    return change_about(versions.change(far), versions.shape(far)), versions.shape(near)


def outward(versions, number):
    """The pairs of neighbours outward from a version."""
    up = [(far - 1, far) for far in range(number + 1, versions.many())]
    return up + [(far + 1, far) for far in reversed(range(number))]


def plain_begun(versions, number, one):
    views = {number: one}
    for near, far in outward(versions, number):
        views[far] = led(*to_next(versions, near, far), views[near])
    return [views[own] for own in range(versions.many())]


def plain_written(versions, views, number, one):
    """The views written, and the papers."""
    after, papers = {number: one}, {}
    for near, far in outward(versions, number):
        after[far], papers[far] = plain_step(*to_next(versions, near, far), after[near], views[far])
    return [after[own] for own in range(versions.many())], sorted(papers.items())


def plain_are_views(versions, views):
    if len(views) != versions.many():
        return False
    if not all(is_of(one, versions.shape(number)) for number, one in enumerate(views)):
        return False
    return all(plain_fit(*to_next(versions, far - 1, far), views[far - 1], views[far]) for far in range(1, len(views)))


def plain_spares(versions, views, near, far):
    """The spares of a version, looked at from its neighbour."""
    (path, piece), shape = to_next(versions, near, far)
    kind, found = kind_at(shape, path), []
    theirs = plain_places(versions.shape(far), views[far], path)
    for where, spot in plain_places(shape, views[near], path).items():
        values = new_values(piece, theirs[where])
        if values != made_values(piece, kind, old_values(piece, spot)):
            found.append((where, values))
    return tuple(found)


def plain_kept(versions, views, home):
    spares = {far: plain_spares(versions, views, near, far) for near, far in outward(versions, home)}
    return home, views[home], tuple(spares.get(number, ()) for number in range(versions.many()))


def drawn_views(versions, seed, writes=6, signs="ab-.1"):
    """Some views: those that a drawn record begins, with other ones written at drawn versions."""
    chance = random.Random(seed)
    number = chance.randrange(versions.many())
    views = plain_begun(versions, number, some_value(versions.shape(number), chance, signs))
    for at in range(writes):
        number, one = drawn_write(versions, views, chance, signs)
        views = plain_written(versions, views, number, one)[0]
    return views


def drawn_write(versions, views, chance, signs="ab-.1"):
    """A version, and a record for it that is mostly the view there with some little thing another one."""
    number = chance.randrange(versions.many())
    if chance.random() < 0.1:
        return number, some_value(versions.shape(number), chance, signs)
    return number, nudged(versions.shape(number), views[number], chance, signs)


def there_and_back(sample):
    """Versions of a sample's change, its change about and the change again."""
    return Versions(sample.shape, [sample.change, sample.about, sample.change])
