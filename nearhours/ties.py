"""The ties that letters make."""

from nearhours.courses import ties_between
from nearhours.refusals import refuse_case


def ties_of(town, run, lot):
    """The ties (one, other, most, index) of the letters between towers that are not in the lot."""
    refuse_case(town, run, lot)
    return ties_between(town, run, lot)
