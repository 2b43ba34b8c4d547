"""Views kept once: the record of a home, and beside it what leading it outward would not make."""

from oldhands.changes import spot_kind
from oldhands.judge import is_pair
from oldhands.kinds import is_whole_within
from oldhands.leading import led, led_with
from oldhands.pieces import made_values, new_values, old_values, record_behind
from oldhands.spots import spots
from oldhands.steps import new_by_where, values_fit
from oldhands.values import is_of
from oldhands.views import in_order, outward, steps_along


def kept_of(versions, views, home):
    """The triple of views: home, the record there, and the spares of each version; refused with BadVersion."""
    spares = {home: ()}
    for near, far, change, shape in outward(versions, home):
        spares[far] = spares_between(change, shape, views[near], views[far])
    return (home, views[home], tuple(in_order(spares)))


def spares_between(change, shape, record, other):
    """The new values, with their wheres, that another record has where the change makes others of a record."""
    made = new_by_where(change, shape, led(change, shape, record))
    own = new_by_where(change, shape, other)
    return tuple([(where, own[where]) for where in own if own[where] != made[where]])


def begun_kept(versions, home, record):
    """The triple of the views that a record of the version home begins."""
    return (home, record, ((),) * versions.many())


def grown_kept(kept):
    """The triple for one version more behind the last one, to which the views are led."""
    return (kept[0], kept[1], kept[2] + ((),))


def views_of(versions, kept):
    """The views of which a triple is kept."""
    views = {kept[0]: kept[1]}
    for near, far, change, shape in outward(versions, kept[0]):
        views[far] = led_with(change, shape, views[near], dict(kept[2][far]))
    return in_order(views)


def read_kept(versions, kept, number):
    """The record that is read at a version; refused with BadVersion."""
    here = kept[1]
    for near, far, change, shape in steps_along(versions, kept[0], number):
        here = led_with(change, shape, here, dict(kept[2][far]))
    return here


def moved_home(versions, kept, home):
    """The triple of the same views at another home; refused with BadVersion."""
    return kept_of(versions, views_of(versions, kept), home)


def spare_many(kept):
    """How many spares are kept."""
    return sum([len(some) for some in kept[2]])


def is_kept(versions, kept):
    """Whether a tuple is a triple that is right kept for versions."""
    if not has_kept_form(versions, kept):
        return False
    reads = {kept[0]: kept[1]}
    # Outward, so that spares are looked at beside what has been read on home's side.
    for near, far, change, shape in outward(versions, kept[0]):
        if not are_spares(change, shape, reads[near], kept[2][far]):
            return False
        reads[far] = led_with(change, shape, reads[near], dict(kept[2][far]))
    return True


def has_kept_form(versions, kept):
    """Whether a tuple has a home, a record of its shape, and a tuple for each version, home's empty."""
    many = versions.many()
    if not isinstance(kept, tuple) or len(kept) != 3 or not is_whole_within(kept[0], 0, many - 1):
        return False
    if not is_of(kept[1], versions.shape(kept[0])) or not isinstance(kept[2], tuple) or len(kept[2]) != many:
        return False
    return kept[2][kept[0]] == () and all([isinstance(some, tuple) for some in kept[2]])


def are_spares(change, shape, record, some):
    """Whether a tuple has spares for some spots of a record that is led by a change, in order, each once."""
    if not all([is_pair(spare) for spare in some]):
        return False
    told = [spare[0] for spare in some]
    found = [spot for spot in spots(shape, record, change[0]) if spot[0] in told]
    if [spot[0] for spot in found] != told:
        return False
    return all([is_spare(change, shape, spot[1], spare[1]) for spot, spare in zip(found, some)])


def is_spare(change, shape, record, values):
    """Whether values can be a spot's spare: of the kinds there, other ones than made ones, and fitting."""
    piece = change[1]
    kind = spot_kind(change, shape)
    if not are_values(values, new_kinds(piece, kind)):
        return False
    old = old_values(piece, record)
    return values != made_values(piece, kind, old) and values_fit(piece, kind, old, values)


def new_kinds(piece, kind):
    """The kinds of a piece's new values."""
    # A record kind has the form of a record, with kinds as its values.
    return new_values(piece, record_behind(piece, kind))


def are_values(values, kinds):
    """Whether this is a tuple of values, one of each kind."""
    if not isinstance(values, tuple) or len(values) != len(kinds):
        return False
    return all([is_of(value, kind) for value, kind in zip(values, kinds)])
