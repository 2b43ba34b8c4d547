"""Papers of writes beside views, and the judge who walks them step by step."""

from oldhands.judge import shows_step
from oldhands.kinds import is_whole
from oldhands.steps import step_paper
from oldhands.values import is_of, made_value
from oldhands.views import outward, written


def write_papers(versions, views, number, record):
    """The papers of a write: a pair of each other version and the paper of the step to it; refused as written."""
    after = written(versions, views, number, record)
    papers = {}
    for near, far, change, shape in outward(versions, number):
        papers[far] = step_paper(change, shape, after[near], views[far])
    return [(far, papers[far]) for far in sorted(papers)]


def shows_write(versions, views, number, record, after, papers):
    """Whether papers show that the views after are those that a write tells; refused as written."""
    shape = versions.shape(number)
    made_value(record, shape)
    many = versions.many()
    if len(after) != many or not is_of(after[number], shape) or after[number] != record:
        return False
    if not has_versions(papers, [far for far in range(many) if far != number]):
        return False
    papers_by_version = dict(papers)
    # Outward, so that what a step is shown to lead from has been shown ahead of it.
    for near, far, change, elder in outward(versions, number):
        if not shows_step(change, elder, after[near], views[far], after[far], papers_by_version[far]):
            return False
    return True


def has_versions(papers, own):
    """Whether papers are a row of pairs with just these versions, in order."""
    if not isinstance(papers, (list, tuple)) or not all([is_numbered(pair) for pair in papers]):
        return False
    return [pair[0] for pair in papers] == own


def is_numbered(thing):
    """Whether a thing is a pair of which the first is a whole number."""
    return isinstance(thing, tuple) and len(thing) == 2 and is_whole(thing[0])
