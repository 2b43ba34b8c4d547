"""Changes that lose ever, and for each a record that loses."""

from oldhands.changes import shape_behind, spot_kind
from oldhands.kinds import LETTERS, field_kind
from oldhands.pieces import made_values, piece_about, record_behind, taken_paths, with_down
from oldhands.shapes import kind_along
from oldhands.values import least_value, with_fields


def loser(change, shape):
    """A record of the shape that loses by a change, None where none does; refused as by shape_behind."""
    shape_behind(change, shape)
    kind = spot_kind(change, shape)
    values = first_losing(change[1], kind)
    if values is None:
        return None
    spot = least_value(kind)
    for path, value in zip(taken_paths(change[1]), values):
        spot = with_down(spot, path, value)
    return least_around(shape, change[0], spot)


def least_around(kind, path, inner):
    """The least value that has its one place of a path, with this there; None where a list or rows has no room."""
    if len(path) == 0:
        return inner
    deeper = least_around(kind_along(kind, path[0]), path[1:], inner)
    if deeper is None:
        return None
    if kind[0] == "record":
        return with_fields(least_value(kind), path[:1], [deeper])
    return None if kind[-1] == 0 else (kind[0], (deeper,))


def first_losing(piece, kind):
    """Old values that lose by a piece of the record kind, None where none do."""
    about = piece_about(piece, kind)
    behind = record_behind(piece, kind)
    for values in likely_values(piece, kind):
        if made_values(about, behind, made_values(piece, kind, values)) != values:
            return values
    return None


def likely_values(piece, kind):
    """Old values of a piece: if any lose, one of these does."""
    word = piece[0]
    if word == "drop":
        return [(value,) for value in unlike_values(field_kind(kind, piece[1]))]
    if word == "turn":
        return [(value,) for value in likely_turned(piece[2], field_kind(kind, piece[1]))]
    if word == "split":
        # A separator that has nothing behind it goes.
        return [(piece[2][:field_kind(kind, piece[1])[1]],)]
    if word == "join":
        return [(piece[3][:field_kind(kind, piece[1])[1]], "")]
    if word == "whole":
        # Only beside low and high can the parts make a number outside of them.
        return [(piece[5] // piece[3], 0), (piece[6] // piece[3], piece[3] - 1)]
    return []


def likely_turned(turn, kind):
    """Values of a kind: if any loses by a turn of it, one of these does."""
    word = turn[0]
    if word == "bounds":
        return [kind[1], kind[2]]
    if word == "shrink":
        return [min(kind[1] + 1, kind[2])]
    if word == "number":
        return [""]
    if word == "words":
        return list(kind[1])
    if word == "cut":
        return [LETTERS[0] * kind[1]]
    if word == "first":
        return [fullest(kind)]
    if word == "out":
        return [("list", ())]
    if word == "items" and kind[2] > 0:
        return [("list", (item,)) for item in likely_turned(turn[1], kind[1])]
    return []


def unlike_values(kind):
    """Values of a kind, not all of them like where it has another one than the least."""
    word = kind[0]
    if word == "number":
        return [kind[1], kind[2]]
    if word == "text":
        return ["", LETTERS[0] * kind[1]]
    if word == "choice":
        return list(kind[1])
    if word != "record":
        return [least_value(kind), fullest(kind)]
    least = least_value(kind)
    found = [least]
    for name, inner in kind[1]:
        found.extend([with_fields(least, [name], [value]) for value in unlike_values(inner)])
    return found


def fullest(kind):
    """A value of a list or rows kind with as many items as any has."""
    if kind[0] == "list":
        return ("list", (least_value(kind[1]),) * kind[2])
    least = least_value(kind[2])
    keys = first_keys(field_kind(kind[2], kind[1]), kind[3])
    return ("rows", tuple([with_fields(least, [kind[1]], [key]) for key in keys]))


def first_keys(kind, most):
    """Ascending values of a number or text kind: so many, or all where there are fewer."""
    if kind[0] == "number":
        return list(range(kind[1], min(kind[1] + most, kind[2] + 1)))
    # Signs are far more than rows have items.
    return ([""] if kind[1] == 0 else [""] + list(LETTERS))[:most]
