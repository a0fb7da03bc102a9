"""How long clocks stay near that gain or lose as they run."""

from nearhours.balances import is_more, least_nearness
from nearhours.drifts import in_hours, reaches_by, rows_by, suspects_by
from nearhours.refusals import refuse_drift, refuse_quarrel_at

FURTHER = 63


def last_hour(town, rates, fears, run, first, most):
    """The greatest hour from first to first + 63 at which the least nearness is at most most, None without."""
    refuse_drift(town, rates, fears, run)
    refuse_quarrel_at(town, rates, fears, run)
    lots = suspects_by(town, rates, fears, run)
    for hour in range(first + FURTHER, first - 1, -1):
        rows = rows_by(town, reaches_by(town, rates, lots, run, (hour,) * len(town[0])))
        nearness = least_nearness(town[0], rows)
        if nearness is not None and not is_more(in_hours(nearness), most):
            return hour
    return None
