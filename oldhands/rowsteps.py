"""Rows of changes, and the steps that leave them alike: swap, out and one."""

from oldhands.changes import change_about, spot_kind
from oldhands.errors import BadKind, BadPiece, BadVersion
from oldhands.kinds import field_kind, is_whole_within
from oldhands.losses import loser
from oldhands.pieces import made_paths, taken_paths
from oldhands.turns import GREATEST_FACTOR, kind_behind, turn_about, turned
from oldhands.versions import Versions

SWAP = "swap"
OUT = "out"
ONE = "one"


def touches(change):
    """The paths that a change touches, ascending."""
    paths = taken_paths(change[1]) + made_paths(change[1])
    return sorted(set([change[0] + path for path in paths]))


def meet(one, other):
    """Whether a path that one of two changes touches is the beginning of one that the other touches."""
    for ours in touches(one):
        for theirs in touches(other):
            shorter = min(len(ours), len(theirs))
            if ours[:shorter] == theirs[:shorter]:
                return True
    return False


def step_done(shape, row, step):
    """The row behind a step; refused as Versions refuses the row, then with BadVersion, then with BadPiece."""
    versions = Versions(shape, row)
    word = step[0]
    at = step[1]
    if not is_whole_within(at, 0, len(row) - 2):
        raise BadVersion("the row has no such place with a next one")
    done = pair_done(word, versions.shape(at), row[at], row[at + 1])
    if done is None:
        raise BadPiece("the step can't be done")
    return list(row[:at]) + done + list(row[at + 2:])


def pair_done(word, shape, one, other):
    """What a step makes of two neighbours, the earlier one being good for the shape; None where it can't be done."""
    if word == SWAP and can_exchange(shape, one, other):
        return [other, one]
    if word == OUT and can_take_out(shape, one, other):
        return []
    if word == ONE and one[0] == other[0]:
        piece = one_piece(one[1], other[1], spot_kind(one, shape))
        return None if piece is None else [(one[0], piece)]
    return None


def can_exchange(shape, one, other):
    """Whether two neighbours can be exchanged."""
    if meet(one, other):
        return False
    try:
        Versions(shape, [other, one])
    except (BadKind, BadPiece):
        # What was dropped ahead of a put is still there behind it: the shape between may be too great.
        return False
    return True


def can_take_out(shape, one, other):
    """Whether two neighbours can be taken out."""
    return is_about(shape, one, other) and loser(one, shape) is None


def is_about(shape, one, other):
    """Whether the other change leads back what the one has led; of a put it may drop any value."""
    if one[1][0] == "put":
        return one[0] == other[0] and other[1][:2] == ("drop", one[1][1])
    return other == change_about(one, shape)


def one_piece(first, second, kind):
    """The piece in the place of two at the same spots, the first being one of the kind; None where there is none."""
    words = (first[0], second[0])
    if made_paths(first) != taken_paths(second):
        return None
    if words == ("name", "name") and second[2] != first[1]:
        return ("name", first[1], second[2])
    if words == ("put", "name"):
        return ("put", second[2], first[2], first[3])
    if words == ("name", "drop"):
        return ("drop", first[1], second[2])
    if words == ("put", "turn"):
        return ("put", first[1], kind_behind(second[2], first[2]), turned(second[2], first[2], first[3]))
    if words == ("turn", "drop"):
        return ("drop", first[1], turned_back(first[2], field_kind(kind, first[1]), second[2]))
    if words == ("turn", "turn"):
        turn = one_turn(first[2], second[2], field_kind(kind, first[1]))
        return None if turn is None else ("turn", first[1], turn)
    return None


def turned_back(turn, kind, value):
    """What the turn about of a turn of a kind makes of a value of the kind behind."""
    return turned(turn_about(turn, kind), kind_behind(turn, kind), value)


def one_turn(first, second, kind):
    """The turn in the place of two, the first being one of the kind; None where there is none."""
    word = first[0]
    if word != second[0]:
        return None
    if word in ("scale", "shrink") and first[1] * second[1] <= GREATEST_FACTOR:
        return (word, first[1] * second[1])
    if word == "bounds" and (has_within(first, kind) or has_within(first, second)):
        return second
    if word in ("cut", "first") and (first[1] >= kind[-1] or first[1] >= second[1]):
        return second
    return None


def has_within(outer, inner):
    """Whether bounds have those of another turn or of a number kind within them."""
    return outer[1] <= inner[1] and inner[2] <= outer[2]
