"""Papers by which no setting is nearer, of clocks that gain or lose as they run."""

from nearhours.balances import is_far, worst_of
from nearhours.drifts import gains_by, in_hours, reaches_by, rows_by, suspects_by
from nearhours.refusals import refuse_asked_at, refuse_quarrel_at


def apart_paper(town, rates, fears, run, hours):
    """A paper that lets_apart accepts, its value the least nearness at hours; None if there is none."""
    refuse_asked_at(town, rates, fears, run, hours)
    refuse_quarrel_at(town, rates, fears, run)
    found = reaches_by(town, rates, suspects_by(town, rates, fears, run), run, hours)
    rows = rows_by(town, found)
    if is_far(rows):
        return None
    circle, mean = worst_of(town[0], rows)
    lots = [found[one, other][1] for one, other in zip(circle, circle[1:] + circle[:1])]
    steps = [
        (one, lot, gains_by(town, rates, run, lot, hours, one)) for one, lot in zip(circle, lots)
    ]
    return "apart", in_hours(mean), tuple(steps)
