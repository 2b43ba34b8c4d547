"""Paths, and the kinds to which they lead."""

from oldhands.errors import BadPath
from oldhands.kinds import EACH, field_kind, is_name, item_kind, made_kind

LONGEST_PATH = 8


def is_path(path):
    """Whether a tuple is a path."""
    if not isinstance(path, tuple) or len(path) > LONGEST_PATH:
        return False
    return all([step == EACH or is_name(step) for step in path])


def kind_along(kind, step):
    """The kind to which one step of a path leads, None where it leads to none."""
    if step == EACH:
        return item_kind(kind)
    return field_kind(kind, step)


def kind_at(kind, path):
    """The kind to which a path leads; refused with BadPath where there is none."""
    if not is_path(path):
        raise BadPath("this is no path")
    here = kind
    for step in path:
        here = kind_along(here, step)
        if here is None:
            raise BadPath("the path leads to no kind")
    return here


def kind_with(kind, path, other):
    """The kind with another kind at the path; refused with BadPath, then with BadKind."""
    kind_at(kind, path)
    return made_kind(kind_put(kind, path, other))


def kind_put(kind, path, other):
    """The kind with whatever other at the path, which leads from it."""
    if len(path) == 0:
        return other
    inner = kind_put(kind_along(kind, path[0]), path[1:], other)
    if kind[0] == "list":
        return ("list", inner, kind[2])
    if kind[0] == "rows":
        return ("rows", kind[1], inner, kind[3])
    return ("record", tuple([(name, inner if name == path[0] else own) for name, own in kind[1]]))
