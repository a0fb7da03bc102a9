"""Which events are ahead of which. Nothing is checked here: all arguments are sound.

Told is a dict of the reaches that are told, by the pair of their towers.
"""

from nearhours.doubts import reaches_between
from nearhours.joins import pairs_of


def told_between(town, fears, run, towers):
    """The reaches that are told between these towers, by the pair of them."""
    rows = reaches_between(town, fears, run, pairs_of(towers))
    return {(one, other): most for one, other, most in rows}


def gap_by(told, one, other):
    """The least and the greatest amount by which the gain of other is more, None if none is told."""
    if (one, other) not in told:
        return None
    # Back a reach is told, too, None just if this one is.
    most, back = told[one, other], told[other, one]
    return (None, None) if most is None else (-back, most)


def is_sure(told, early, late):
    """Whether early is ahead of late, whatever suspect leaves both."""
    hours = late[1] - early[1]
    if early[0] == late[0]:
        return hours > 0
    between = gap_by(told, early[0], late[0])
    return between is None or (between[1] is not None and between[1] < hours)


def is_possible(told, early, late):
    """Whether early is ahead of late for some suspect that leaves both."""
    hours = late[1] - early[1]
    if early[0] == late[0]:
        return hours > 0
    between = gap_by(told, early[0], late[0])
    return between is not None and (between[0] is None or between[0] < hours)
