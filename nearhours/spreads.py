"""Gains that lie far apart, and what keeps them from it. Nothing is checked here: all arguments are sound."""

from nearhours.courses import least_sums, ring_by, steps_back, ties_between
from nearhours.joins import outside_of


def farthest_gains(ties, places, start):
    """Gains of the places, by these ties, each being as much more than start's as can be.

    Of a place to which no chain leads the gain is whatever fits.
    """
    sums, _, _ = least_sums(ties, places, len(places))
    told, _, _ = least_sums(ties, (start,), len(places))
    return tuple([told.get(place, sums[place]) for place in places])


def gains_from(town, run, lot, one):
    """Gains for the lot that fit, that of each tower being as much more than one's as can be."""
    return farthest_gains(ties_between(town, run, lot), outside_of(town, lot), one)


def part_with(town, run, lot, tower):
    """The set of the towers that hang together with this one by letters without the lot."""
    towers = outside_of(town, lot)
    sums, _, _ = least_sums(ties_between(town, run, lot), (tower,), len(towers))
    return tuple([other for other in towers if other in sums])


def gains_apart(town, run, lot, one, other, amount):
    """Gains for the lot that fit, other's being as much more than one's as can be.

    It is more by just the amount if there is no greatest.
    """
    towers = outside_of(town, lot)
    gains = gains_from(town, run, lot, one)
    part = part_with(town, run, lot, other)
    if one in part:
        return gains
    gain_of = dict(zip(towers, gains))
    missing = amount - (gain_of[other] - gain_of[one])
    return tuple([gain_of[tower] + (missing if tower in part else 0) for tower in towers])


def ground_of(town, run, lot, one, other):
    """Why other's gain is not more: a clashing ring without the lot, or the least chain from one.

    One of both there has to be.
    """
    ties = ties_between(town, run, lot)
    ring = ring_by(ties, outside_of(town, lot))
    if ring is not None:
        return "ring", ring
    _, last, _ = least_sums(ties, (one,), len(town[0]))
    return "chain", steps_back(last, other, one)
