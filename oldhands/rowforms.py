"""Short rows of changes, the steps that lead to them, and the judge who walks the steps."""

from oldhands.errors import BadPiece, BadVersion
from oldhands.rowsteps import ONE, OUT, SWAP, pair_done, step_done
from oldhands.versions import Versions


def is_short(shape, row):
    """Whether a row is short; refused as Versions refuses it."""
    return steps_to_fewer(shape, row) is None


def shortened(shape, row):
    """A pair of the steps that lead from a row to a short one, and that one; refused as Versions refuses the row."""
    here = list(row)
    steps = []
    found = steps_to_fewer(shape, here)
    while found is not None:
        for step in found:
            here = step_done(shape, here, step)
        steps.extend(found)
        found = steps_to_fewer(shape, here)
    return (steps, here)


def steps_to_fewer(shape, row):
    """Steps of which the last leaves fewer changes, None where the row is short; refused as Versions refuses it."""
    versions = Versions(shape, row)
    for start in range(len(row)):
        found = steps_ahead(versions, row, start)
        if found is not None:
            return found
    return None


def steps_ahead(versions, row, start):
    """The steps that bring the change at a place behind one with which it goes; None where there is no such one."""
    steps = []
    for at in range(start - 1, -1, -1):
        # The changes ahead of this place stand as they stood, so the shape here is the row's own.
        shape = versions.shape(at)
        for word in (OUT, ONE):
            if pair_done(word, shape, row[at], row[start]) is not None:
                return steps + [(word, at)]
        if pair_done(SWAP, shape, row[at], row[start]) is None:
            return None
        steps.append((SWAP, at))
    return None


def row_shows(shape, row, steps, outcome):
    """Whether steps that can be done lead from a row to the outcome; refused as Versions refuses the row."""
    Versions(shape, row)
    here = list(row)
    for step in steps:
        try:
            here = step_done(shape, here, step)
        except (BadVersion, BadPiece):
            return False
    return here == list(outcome)
