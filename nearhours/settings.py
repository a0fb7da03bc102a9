"""How near to one another the clocks can be brought, and what to take from their hours."""

from nearhours.balances import least_nearness, nearness_by, setting_of
from nearhours.doubts import reaches_of
from nearhours.reaching import reaches
from nearhours.refusals import refuse_asked, refuse_quarrel, refuse_setting


def nearest(town, fears, run):
    """The least nearness of a setting, a fraction; None if none has one."""
    rows = reaches(town, fears, run)
    return least_nearness(town[0], rows)


def best_setting(town, fears, run):
    """A setting of the least nearness, None if none has one."""
    rows = reaches(town, fears, run)
    nearness = least_nearness(town[0], rows)
    return None if nearness is None else setting_of(town[0], rows, nearness)


def nearness_of(town, fears, run, setting):
    """The nearness of the setting, a fraction; None if it has none."""
    refuse_asked(town, fears, run)
    refuse_setting(town, setting)
    refuse_quarrel(town, fears, run)
    return nearness_by(town[0], reaches_of(town, fears, run), setting)
