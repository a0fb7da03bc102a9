"""How much more the gain of one tower can be than that of another one, whoever lied."""

from nearhours.doubts import reach_row, reaches_of
from nearhours.errors import NotUsable
from nearhours.refusals import refuse_asked, refuse_ends, refuse_quarrel


def reach(town, fears, run, one, other):
    """The reach from one to other, None if there is no greatest amount."""
    refuse_asked(town, fears, run)
    refuse_ends(town[0], one, other)
    refuse_quarrel(town, fears, run)
    row = reach_row(town, fears, run, one, other)
    if row is None:
        raise NotUsable("other", other)
    return row[1]


def reaches(town, fears, run):
    """The set of the triples (one, other, reach) of all two towers for which a reach is told."""
    refuse_asked(town, fears, run)
    refuse_quarrel(town, fears, run)
    return reaches_of(town, fears, run)
