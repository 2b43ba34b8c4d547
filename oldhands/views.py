"""Views: one record for each version, neighbours fitting, and writes beside them."""

from oldhands.leading import led
from oldhands.steps import fit, step
from oldhands.values import is_of, made_value
from oldhands.versions import steps_between


def begun_views(versions, number, record):
    """The views that a record of a version begins; refused with BadVersion, then with BadValue."""
    views = {number: made_value(record, versions.shape(number))}
    for near, far, change, shape in outward(versions, number):
        views[far] = led(change, shape, views[near])
    return in_order(views)


def written(versions, views, number, record):
    """The views with a record written at a version; refused with BadVersion, then with BadValue."""
    after = {number: made_value(record, versions.shape(number))}
    for near, far, change, shape in outward(versions, number):
        after[far] = step(change, shape, after[near], views[far])
    return in_order(after)


def outward(versions, number):
    """The steps outward from a version, upwards and then downwards, told as by steps_along."""
    return steps_along(versions, number, versions.many() - 1) + steps_along(versions, number, 0)


def steps_along(versions, start, goal):
    """The steps from a version to another: from which and to which each leads, its change and its shape."""
    side = 1 if start <= goal else -1
    return [(near, near + side, change, shape) for near, change, shape in steps_between(versions, start, goal)]


def in_order(by_version):
    """The list of what a dict has for each version, ascending."""
    return [by_version[number] for number in sorted(by_version)]


def are_views(versions, views):
    """Whether these are a record for each version, of its shape, neighbours fitting."""
    many = versions.many()
    if len(views) != many or not all([is_of(views[number], versions.shape(number)) for number in range(many)]):
        return False
    steps = steps_between(versions, 0, many - 1)
    return all([fit(change, shape, views[number], views[number + 1]) for number, change, shape in steps])


def turned_stretch(before, after):
    """The pair of the least and the greatest version whose views are unlike, None where there is none."""
    unlike = [number for number, pair in enumerate(zip(before, after)) if pair[0] != pair[1]]
    if len(unlike) == 0:
        return None
    return (unlike[0], unlike[-1])
