"""The wires and neighbors of towers."""

from nearhours.joins import bounds_by_ends
from nearhours.refusals import refuse_ends, refuse_tower, refuse_town


def wire_of(town, one, other):
    """The pair (low, high) of the wire that joins the two towers, None if there is none."""
    refuse_town(town)
    refuse_ends(town[0], one, other)
    return bounds_by_ends(town).get((one, other))


def neighbors(town, tower):
    """The set of the towers that a wire joins with the tower."""
    refuse_town(town)
    refuse_tower(town, tower)
    bounds = bounds_by_ends(town)
    return tuple([other for other in town[0] if (tower, other) in bounds])


def widest(town):
    """The greatest width of a wire, 0 without wires."""
    refuse_town(town)
    return max([high - low for _, _, low, high in town[1]], default=0)
