"""Who can have lied, and how near clocks can be brought, if they gain or lose as they run."""

from nearhours.balances import least_nearness, nearness_by, setting_of
from nearhours.drifts import in_hours, in_parts, reaches_by, rows_by, suspects_by
from nearhours.errors import NotUsable
from nearhours.refusals import refuse_asked_at, refuse_drift, refuse_ends, refuse_quarrel_at, refuse_setting


def suspects_at(town, rates, fears, run):
    """The set of the suspects at rates."""
    refuse_drift(town, rates, fears, run)
    return suspects_by(town, rates, fears, run)


def reach_at(town, rates, fears, run, hours, one, other):
    """The reach at hours from one to other, None if there is no greatest amount."""
    refuse_asked_at(town, rates, fears, run, hours)
    refuse_ends(town[0], one, other)
    refuse_quarrel_at(town, rates, fears, run)
    found = reaches_by(town, rates, suspects_by(town, rates, fears, run), run, hours)
    if (one, other) not in found:
        raise NotUsable("other", other)
    return told_in_hours(found[one, other][0])


def reaches_at(town, rates, fears, run, hours):
    """The set of the triples (one, other, reach) of all two towers for which a reach is told."""
    refuse_asked_at(town, rates, fears, run, hours)
    rows = told_rows(town, rates, fears, run, hours)
    return tuple([(one, other, told_in_hours(most)) for one, other, most in rows])


def nearest_at(town, rates, fears, run, hours):
    """The least nearness of a setting at hours, a fraction; None if none has one."""
    refuse_asked_at(town, rates, fears, run, hours)
    rows = told_rows(town, rates, fears, run, hours)
    nearness = least_nearness(town[0], rows)
    return None if nearness is None else in_hours(nearness)


def setting_at(town, rates, fears, run, hours):
    """A setting of the least nearness at hours, None if none has one."""
    refuse_asked_at(town, rates, fears, run, hours)
    rows = told_rows(town, rates, fears, run, hours)
    nearness = least_nearness(town[0], rows)
    if nearness is None:
        return None
    return tuple([in_hours(taken) for taken in setting_of(town[0], rows, nearness)])


def nearness_at(town, rates, fears, run, hours, setting):
    """The nearness of the setting at hours, a fraction; None if it has none."""
    refuse_asked_at(town, rates, fears, run, hours)
    refuse_setting(town, setting)
    rows = told_rows(town, rates, fears, run, hours)
    nearness = nearness_by(town[0], rows, [in_parts(taken) for taken in setting])
    return None if nearness is None else in_hours(nearness)


def told_rows(town, rates, fears, run, hours):
    """The triples (one, other, reach) for which a reach is told, in thousandths, if a feared lot explains the run."""
    refuse_quarrel_at(town, rates, fears, run)
    lots = suspects_by(town, rates, fears, run)
    return rows_by(town, reaches_by(town, rates, lots, run, hours))


def told_in_hours(most):
    """An amount of thousandths as a fraction of hours, None if there is none."""
    return None if most is None else in_hours((most, 1))
