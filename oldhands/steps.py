"""Records that fit, and steps that keep what a memory has."""

from oldhands.changes import shape_behind, spot_kind
from oldhands.leading import led_with
from oldhands.pieces import made_values, new_values, old_values, piece_about, record_behind
from oldhands.spots import spots, wheres

KEPT = "kept"
MADE = "made"


def fit(change, shape, record, other):
    """Whether a record of the shape and one of the shape behind fit."""
    # A step tells what fits, and tells a memory itself that fits: just these are told again.
    return step(change, shape, record, other) == other


def values_fit(piece, kind, old, new):
    """Whether old values of a record of the kind and new ones of the kind behind fit."""
    if made_values(piece, kind, old) == new:
        return True
    return made_values(piece_about(piece, kind), record_behind(piece, kind), new) == old


def step(change, shape, record, memory):
    """The record led by a change beside a memory, a record of the shape behind."""
    return led_with(change, shape, record, kept_values(change, shape, record, memory))


def step_paper(change, shape, record, memory):
    """The paper of a step: for each spot, in order, a pair of its where and the word kept or made."""
    kept = kept_values(change, shape, record, memory)
    return [(where, KEPT if where in kept else MADE) for where in wheres(shape, record, change[0])]


def kept_values(change, shape, record, memory):
    """The memory's new values, by wheres, for each spot of the record where they fit."""
    piece = change[1]
    kind = spot_kind(change, shape)
    theirs = new_by_where(change, shape, memory)
    kept = {}
    for where, inner in spots(shape, record, change[0]):
        if where in theirs and values_fit(piece, kind, old_values(piece, inner), theirs[where]):
            kept[where] = theirs[where]
    return kept


def new_by_where(change, shape, record):
    """The new values, by wheres, at each spot of a record of the shape behind."""
    found = spots(shape_behind(change, shape), record, change[0])
    return dict([(where, new_values(change[1], inner)) for where, inner in found])
