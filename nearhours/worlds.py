"""Gains that fit a run."""

from nearhours.courses import explains, first_misfit, least_sums, ties_between
from nearhours.joins import outside_of
from nearhours.refusals import refuse_case, refuse_gains


def some_gains(town, run, lot):
    """Some gains for the lot that fit the run, None if there are none."""
    refuse_case(town, run, lot)
    outside = outside_of(town, lot)
    sums, _, fallen = least_sums(ties_between(town, run, lot), outside, len(outside))
    return tuple([sums[tower] for tower in outside]) if fallen is None else None


def do_fit(town, run, lot, gains):
    """Whether the gains for the lot fit the run."""
    refuse_case(town, run, lot)
    outside = outside_of(town, lot)
    refuse_gains(outside, gains)
    return first_misfit(ties_between(town, run, lot), outside, gains) is None


def does_explain(town, run, lot):
    """Whether the lot explains the run."""
    refuse_case(town, run, lot)
    return explains(town, run, lot)
