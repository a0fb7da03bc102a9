"""Ties, and the least sums of chains of them. Nothing is checked here: all arguments are sound."""

from nearhours.joins import bounds_by_ends, is_outside, outside_of


def ties_between(town, run, lot):
    """The ties (one, other, most, index) of the letters between towers that are not in the lot."""
    bounds = bounds_by_ends(town)
    ties = []
    for index, letter in enumerate(run):
        if is_outside(letter, lot):
            one, other, sent, heard = letter
            low, high = bounds[one, other]
            ties.append((one, other, heard - sent - low, index))
            ties.append((other, one, high - heard + sent, index))
    return tuple(ties)


def least_sums(ties, starts, many):
    """The least sums of chains from any of the starts, in as many rounds as there are towers.

    Returns these sums by tower, the last tie of each such chain by tower, and a tower whose sum
    fell in the last round, None if none did. So many rounds are enough for all chains that pass
    no tower twice; only a clashing ring lets a sum fall after that.
    """
    sums = dict([(tower, 0) for tower in starts])
    last = {}
    fallen = None
    for _ in range(many):
        fallen = None
        for tie in ties:
            one, other, most, _ = tie
            if one in sums and (other not in sums or sums[one] + most < sums[other]):
                sums[other] = sums[one] + most
                last[other] = tie
                fallen = other
        if fallen is None:
            break
    return sums, last, fallen


def steps_back(last, tower, start):
    """The steps of the last ties from start to the tower, which is start itself for a ring."""
    steps = []
    while tower != start or len(steps) == 0:
        one, other, _, index = last[tower]
        steps.append((index, other))
        tower = one
    return tuple(steps[::-1])


def ring_by(ties, towers):
    """A clashing ring of these ties between the towers, None if there is none."""
    _, last, fallen = least_sums(ties, towers, len(towers))
    if fallen is None:
        return None
    tower = fallen
    # The tower may hang behind the ring; so many last ties back there is none but those in it.
    for _ in towers:
        tower = last[tower][0]
    return steps_back(last, tower, tower)


def ring_outside(town, run, lot):
    """A clashing ring of letters between towers that are not in the lot, None if there is none."""
    return ring_by(ties_between(town, run, lot), outside_of(town, lot))


def explains(town, run, lot):
    """Whether the lot explains the run."""
    return ring_outside(town, run, lot) is None


def first_misfit(ties, towers, gains):
    """The index of the first letter that the gains of the towers do not fit, None if they fit."""
    gain_of = dict(zip(towers, gains))
    for one, other, most, index in ties:
        if gain_of[other] - gain_of[one] > most:
            return index
    return None
