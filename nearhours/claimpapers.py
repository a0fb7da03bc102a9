"""Papers on whether an event is surely ahead of another one."""

from nearhours.doubts import bare_lots, is_farther, reach_row
from nearhours.refusals import refuse_claim
from nearhours.spreads import gains_apart, ground_of


def claim_paper(town, fears, run, early, late):
    """A paper that lets_claim accepts: grounds by which it is so, or gains by which it is not."""
    refuse_claim(town, fears, run, early, late)
    one, other, hours = early[0], late[0], late[1] - early[1]
    row = reach_row(town, fears, run, one, other)
    if row is None or is_farther(hours, row[1]):
        lots = bare_lots(fears, (one, other))
        return "sure", tuple([ground_of(town, run, lot, one, other) for lot in lots])
    return "open", row[0], gains_apart(town, run, row[0], one, other, hours)
