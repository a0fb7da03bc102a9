"""What towns, runs and lots consist of. Nothing is checked here: all arguments are sound."""


def bounds_by_ends(town):
    """The pair (low, high) of each wire, by the pair of its towers in either order."""
    wires = town[1]
    return {
        ends: (low, high)
        for one, other, low, high in wires
        for ends in ((one, other), (other, one))
    }


def outside_of(town, lot):
    """The towers of the town that are not in the lot, ascending."""
    return tuple([tower for tower in town[0] if tower not in lot])


def pairs_of(towers):
    """All pairs of two towers, in both directions, ascending."""
    return tuple([(one, other) for one in towers for other in towers if one != other])


def is_outside(letter, lot):
    """Whether the letter goes between two towers that are not in the lot."""
    return letter[0] not in lot and letter[1] not in lot


def is_part(lot, whole):
    """Whether all towers of the lot are in the other one."""
    return all([tower in whole for tower in lot])


def events_of(run):
    """The events of the letters, ascending, each once: when each was sent, and when it was heard."""
    return tuple(sorted({
        event for one, other, sent, heard in run for event in ((one, sent), (other, heard))
    }))
