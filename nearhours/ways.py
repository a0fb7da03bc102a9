"""How much more the gain of one tower can be than that of another one, and the chains that tell."""

from nearhours.courses import least_sums, steps_back, ties_between
from nearhours.joins import outside_of
from nearhours.refusals import refuse_case, refuse_ends, refuse_unexplained


def way(town, run, lot, one, other):
    """The greatest amount by which the gain of other is more than that of one, None if none is."""
    refuse_way(town, run, lot, one, other)
    sums, _ = sums_from(town, run, lot, one)
    return sums.get(other)


def chain_of(town, run, lot, one, other):
    """A chain from one to other whose ties add to the way, None if there is none."""
    refuse_way(town, run, lot, one, other)
    sums, last = sums_from(town, run, lot, one)
    return steps_back(last, other, one) if other in sums else None


def refuse_way(town, run, lot, one, other):
    """Raises NotUsable unless the lot explains the run and leaves the two towers."""
    refuse_case(town, run, lot)
    refuse_ends(outside_of(town, lot), one, other)
    refuse_unexplained(town, run, lot)


def sums_from(town, run, lot, one):
    """The least sums of chains from one, and the last tie of each, by tower; all are sound."""
    ties = ties_between(town, run, lot)
    sums, last, _ = least_sums(ties, (one,), len(outside_of(town, lot)))
    return sums, last
