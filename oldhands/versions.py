"""Versions of a shape, and records led from one to another."""

from oldhands.changes import change_about, shape_behind
from oldhands.errors import BadKind, BadVersion, Full
from oldhands.kinds import is_whole_within, made_kind
from oldhands.leading import led, lost, restored
from oldhands.values import made_value

MOST_CHANGES = 20


class Versions:
    """Shapes numbered from 0 on: the first one, and the one behind each change."""

    def __init__(self, shape, changes):
        shapes = [made_shape(shape)]
        for change in changes:
            shapes.append(shape_behind(change, shapes[-1]))
        if len(changes) > MOST_CHANGES:
            raise Full("there are too many changes")
        # Tuples, so that versions may be shared: nothing of them can be changed.
        self.all_shapes = tuple(shapes)
        self.all_changes = tuple(changes)

    def shape(self, number):
        """The shape of a version; refused with BadVersion."""
        return numbered(self.all_shapes, number)

    def change(self, number):
        """The change that leads from a version to the next; refused with BadVersion."""
        return numbered(self.all_changes, number)

    def many(self):
        """How many versions there are."""
        return len(self.all_shapes)

    def grown(self, change):
        """Versions with one change more; refused as when versions are made."""
        return Versions(self.all_shapes[0], self.all_changes + (change,))


def made_shape(kind):
    """The kind itself; refused with BadKind where it is no shape."""
    if made_kind(kind)[0] != "record":
        raise BadKind("this is no record kind")
    return kind


def numbered(some, number):
    """The one of this number, from 0 on; refused with BadVersion where there is none."""
    if not is_whole_within(number, 0, len(some) - 1):
        raise BadVersion("there is no such version")
    return some[number]


def led_between(versions, start, goal, record):
    """The record of the version start led to the version goal; refused with BadVersion, then with BadValue."""
    steps = steps_between(versions, start, goal)
    here = made_value(record, versions.shape(start))
    for number, change, shape in steps:
        here = led(change, shape, here)
    return here


def lost_between(versions, start, goal, record):
    """What is lost on the way: triples of the version from which a step leads, a where and the values there."""
    steps = steps_between(versions, start, goal)
    here = made_value(record, versions.shape(start))
    told = []
    for number, change, shape in steps:
        told.extend([(number, where, values) for where, values in lost(change, shape, here)])
        here = led(change, shape, here)
    return told


def restored_between(versions, start, goal, record, some):
    """The record of the version start, of one led to goal and all that was lost; refused as led_between."""
    steps = steps_between(versions, start, goal)
    here = made_value(record, versions.shape(goal))
    for number, change, shape in reversed(steps):
        here = restored(change, shape, here, [(where, values) for own, where, values in some if own == number])
    return here


def steps_between(versions, start, goal):
    """The steps from start to goal: triples of the version from which each leads, its change and its shape."""
    versions.shape(start)
    versions.shape(goal)
    if start <= goal:
        return [(number, versions.change(number), versions.shape(number)) for number in range(start, goal)]
    steps = []
    for number in range(start, goal, -1):
        about = change_about(versions.change(number - 1), versions.shape(number - 1))
        steps.append((number, about, versions.shape(number)))
    return steps
