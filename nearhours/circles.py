"""What keeps clocks from being brought nearer, and what is left free."""

from nearhours.balances import is_far, least_nearness, room_of, worst_of
from nearhours.doubts import reaches_of
from nearhours.reaching import reaches
from nearhours.refusals import refuse_asked, refuse_ends, refuse_quarrel


def worst_circle(town, fears, run):
    """A circle whose mean is the least nearness, () if there is none; None without a nearness."""
    rows = reaches(town, fears, run)
    return None if is_far(rows) else worst_of(town[0], rows)[0]


def room_between(town, fears, run, one, other):
    """The least and the greatest of what other's fraction is more by in settings that do best."""
    refuse_asked(town, fears, run)
    refuse_ends(town[0], one, other)
    refuse_quarrel(town, fears, run)
    rows = reaches_of(town, fears, run)
    nearness = least_nearness(town[0], rows)
    return None if nearness is None else room_of(town[0], rows, nearness, one, other)
