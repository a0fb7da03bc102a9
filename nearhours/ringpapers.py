"""Papers by which no setting is nearer."""

from nearhours.circles import worst_circle
from nearhours.doubts import reach_row, reaches_of
from nearhours.spreads import gains_from, part_with


def ring_paper(town, fears, run):
    """A paper that lets_ring takes to the least nearness."""
    circle = worst_circle(town, fears, run)
    if circle is None:
        return far_paper(town, fears, run)
    nexts = circle[1:] + circle[:1]
    return "circle", tuple([step_by(town, fears, run, one, other) for one, other in zip(circle, nexts)])


def step_by(town, fears, run, one, other):
    """The step from one to other that tells the reach."""
    lot, _ = reach_row(town, fears, run, one, other)
    return one, lot, gains_from(town, run, lot, one)


def far_paper(town, fears, run):
    """A paper of two towers between which no reach has a greatest amount; there are such."""
    one, other = [(one, other) for one, other, most in reaches_of(town, fears, run) if most is None][0]
    lot, _ = reach_row(town, fears, run, one, other)
    return "far", one, other, lot, gains_from(town, run, lot, one), part_with(town, run, lot, other)
