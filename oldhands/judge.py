"""The judge of steps, who walks a paper spot by spot."""

from oldhands.changes import shape_behind, spot_kind
from oldhands.kinds import is_whole
from oldhands.leading import led_with
from oldhands.pieces import made_values, old_values
from oldhands.spots import spots, wheres
from oldhands.steps import KEPT, MADE, new_by_where, values_fit
from oldhands.values import is_of


def shows_step(change, shape, record, memory, outcome, paper):
    """Whether a paper shows that the outcome is what the step beside the memory tells."""
    if not is_of(outcome, shape_behind(change, shape)):
        return False
    told = new_by_where(change, shape, outcome)
    own = wheres(shape, record, change[0])
    if list(told) != own or not has_wheres(paper, own):
        return False
    remembered = new_by_where(change, shape, memory)
    piece = change[1]
    kind = spot_kind(change, shape)
    for spot, pair in zip(spots(shape, record, change[0]), paper):
        where = spot[0]
        if not shows_spot(piece, kind, old_values(piece, spot[1]), remembered.get(where), told[where], pair[1]):
            return False
    # The outcome's new values are shown by now, so this looks at what is outside of the piece.
    return led_with(change, shape, record, told) == outcome


def has_wheres(paper, own):
    """Whether a paper is a row of pairs with just these wheres, in order."""
    if not isinstance(paper, (list, tuple)) or not all([is_pair(pair) for pair in paper]):
        return False
    return [pair[0] for pair in paper] == own


def is_pair(thing):
    """Whether a thing is a pair of which the first is a tuple of texts and whole numbers."""
    if not isinstance(thing, tuple) or len(thing) != 2 or not isinstance(thing[0], tuple):
        return False
    return all([isinstance(entry, str) or is_whole(entry) for entry in thing[0]])


def shows_spot(piece, kind, old, remembered, new, word):
    """Whether a word shows the new values of a spot; remembered are the memory's there, None where it has no spot."""
    fits = remembered is not None and values_fit(piece, kind, old, remembered)
    if word == KEPT:
        return fits and new == remembered
    return word == MADE and not fits and new == made_values(piece, kind, old)
