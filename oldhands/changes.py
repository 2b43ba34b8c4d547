"""Changes: a piece done at each spot of a path, and the shape behind."""

from oldhands.errors import BadPath, BadPiece
from oldhands.pieces import made_paths, piece_about, record_behind, taken_paths
from oldhands.shapes import kind_at, kind_with


def shape_behind(change, shape):
    """The shape behind a change; refused with BadPath, then with BadPiece or BadTurn, lastly with BadKind."""
    elder = spot_kind(change, shape)
    behind = record_behind(change[1], elder)
    if moves_key(change, shape):
        raise BadPiece("the piece takes or makes the key of rows")
    return kind_with(shape, change[0], behind)


def change_about(change, shape):
    """The change that leads from the shape behind to the elder shape; refused as by shape_behind."""
    shape_behind(change, shape)
    return (change[0], piece_about(change[1], spot_kind(change, shape)))


def spot_kind(change, shape):
    """The kind of the spots of a change; refused with BadPath where its path leads to no record kind."""
    if len(change) != 2:
        raise BadPath("this is no pair of a path and a piece")
    kind = kind_at(shape, change[0])
    if kind[0] != "record":
        raise BadPath("the path leads to no record kind")
    return kind


def moves_key(change, shape):
    """Whether the spots of a change are items of rows and its piece takes or makes their key."""
    outer = kind_at(shape, change[0][:-1])
    # From rows a path goes on to their items alone; the empty path has a shape here, which is no rows.
    return outer[0] == "rows" and (outer[1],) in taken_paths(change[1]) + made_paths(change[1])
