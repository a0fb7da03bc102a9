"""Rings that clash."""

from nearhours.courses import ring_outside
from nearhours.refusals import refuse_case


def clash(town, run, lot):
    """A clashing ring whose towers are not in the lot, None if there is none."""
    refuse_case(town, run, lot)
    return ring_outside(town, run, lot)
