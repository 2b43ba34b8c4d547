"""Records led by changes, what is lost of them, and records restored."""

from oldhands.changes import change_about, shape_behind, spot_kind
from oldhands.pieces import made_values, old_values, with_new
from oldhands.spots import spots, with_values


def led(change, shape, record):
    """The record to which a change leads a record of the shape."""
    return led_with(change, shape, record, {})


def led_with(change, shape, record, some):
    """The record led, with the new values of a dict by wheres in the place of made ones."""
    piece = change[1]
    kind = spot_kind(change, shape)
    done = []
    for where, inner in spots(shape, record, change[0]):
        made = made_values(piece, kind, old_values(piece, inner))
        done.append((where, with_new(piece, kind, inner, some.get(where, made))))
    return with_values(shape, record, done)


def led_back(change, shape, record, some):
    """The record led back by the change about, with the old values of a dict by wheres in the place of made ones."""
    return led_with(change_about(change, shape), shape_behind(change, shape), record, some)


def twin_record(change, shape, record):
    """The record led there and back."""
    return led_back(change, shape, led(change, shape, record), {})


def lost(change, shape, record):
    """What is lost of a record: pairs of a where and the old values there, in the order of the spots."""
    ours = old_by_where(change, shape, record)
    twins = dict(old_by_where(change, shape, twin_record(change, shape, record)))
    return [pair for pair in ours if twins[pair[0]] != pair[1]]


def old_by_where(change, shape, record):
    """Pairs of a where and the old values there, for each spot in order."""
    return [(where, old_values(change[1], inner)) for where, inner in spots(shape, record, change[0])]


def restored(change, shape, record, some):
    """The record of the elder shape, of one led and of what was lost of it."""
    return led_back(change, shape, record, dict(some))
