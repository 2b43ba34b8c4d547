"""Places of paths in values, told by their wheres, and the values there."""

from oldhands.kinds import EACH, field_kind, item_kind
from oldhands.values import field_of


def entries(kind, value):
    """What stands straight within a value, in order: pairs of a where's entry and the value there."""
    if kind[0] == "record":
        return list(value[1])
    if kind[0] == "list":
        return list(enumerate(value[1]))
    if kind[0] == "rows":
        return [(field_of(item, kind[1]), item) for item in value[1]]
    return []


def inner_kind(kind, entry):
    """The kind of what stands within a value at a where's entry, None where there is none."""
    if kind[0] == "record":
        return field_kind(kind, entry)
    return item_kind(kind)


def wheres(kind, value, path):
    """The wheres of a path's places in a value, in order; the path leads from the kind."""
    return [where for where, inner in places(kind, value, path)]


def spots(kind, record, path):
    """The spots of a path that leads to a record kind: pairs of a where and the record there, in order."""
    return places(kind, record, path)


def places(kind, value, path):
    """Pairs of a where and the value there, for each place of a path in a value, in order."""
    if len(path) == 0:
        return [((), value)]
    found = []
    for entry, inner in entries(kind, value):
        if path[0] == (entry if kind[0] == "record" else EACH):
            behind = places(inner_kind(kind, entry), inner, path[1:])
            found.extend([((entry,) + where, deeper) for where, deeper in behind])
    return found


def value_at(kind, value, where):
    """The value at a where, None where there is no such place."""
    here_kind = kind
    here = value
    for entry in where:
        found = [inner for own, inner in entries(here_kind, here) if own == entry]
        if len(found) == 0:
            return None
        here_kind = inner_kind(here_kind, entry)
        here = found[0]
    return here


def with_values(kind, value, some):
    """The value with others at some wheres, pairs of a where and a value, of unlike places of one path."""
    if len(some) == 0:
        return value
    within = {}
    for where, other in some:
        if len(where) == 0:
            return other
        within.setdefault(where[0], []).append((where[1:], other))
    told = []
    for entry, inner in entries(kind, value):
        told.append((entry, with_values(inner_kind(kind, entry), inner, within.get(entry, []))))
    if kind[0] == "record":
        return ("record", tuple(told))
    return (kind[0], tuple([inner for entry, inner in told]))
