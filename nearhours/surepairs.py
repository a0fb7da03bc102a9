"""Which of many events are surely ahead of which, and circles of such."""

from nearhours.aheads import is_sure, told_between
from nearhours.courses import ring_by
from nearhours.refusals import refuse_asked, refuse_events, refuse_quarrel


def sure_pairs(town, fears, run, events):
    """The set of the pairs of indexes of events, the first surely ahead of the second."""
    refuse_asked(town, fears, run)
    refuse_events(town, events)
    refuse_quarrel(town, fears, run)
    told = told_between(town, fears, run, town[0])
    return tuple([
        (j, k)
        for j, early in enumerate(events)
        for k, late in enumerate(events) if is_sure(told, early, late)
    ])


def circle_of(town, fears, run, events):
    """Indexes of events each surely ahead of the next one, the last one of the first; None without."""
    ties = [(j, k, -1, at) for at, (j, k) in enumerate(sure_pairs(town, fears, run, events))]
    # Each tie is less than 0, so each ring clashes.
    ring = ring_by(ties, tuple(range(len(events))))
    return None if ring is None else tuple([k for _, k in ring])
