"""What the papers that checkers look at consist of. All arguments but the things judged are sound."""

from nearhours.courses import first_misfit, ties_between
from nearhours.joins import outside_of
from nearhours.kinds import are_integers, is_integer, is_tuple


def gains_fault(town, run, lot, thing):
    """The first fault of any value as gains for the lot that fit the run, None without one."""
    towers = outside_of(town, lot)
    if not are_integers(thing, len(towers)):
        return "gains", -1
    index = first_misfit(ties_between(town, run, lot), towers, thing)
    return None if index is None else ("letter", index)


def told_steps(ties):
    """For each step by one of the ties the pair of the tower from which it goes and of its tie."""
    return {(index, other): (one, most) for one, other, most, index in ties}


def is_step(told, thing):
    """Whether any value is a step by one of the ties told."""
    if not is_tuple(thing, 2) or not is_integer(thing[0]) or not isinstance(thing[1], str):
        return False
    return thing in told


def is_ring(told, thing):
    """Whether any value is a ring by the ties told."""
    if not isinstance(thing, tuple) or len(thing) == 0:
        return False
    if not all([is_step(told, step) for step in thing]):
        return False
    return all([told[step][0] == thing[k - 1][1] for k, step in enumerate(thing)])


def sum_of(told, steps):
    """What the ties of the steps add to."""
    return sum([told[step][1] for step in steps])


def is_ground(thing):
    """Whether any value is a pair of one of the words chain, ring and a tuple."""
    return is_tuple(thing, 2) and thing[0] in ("chain", "ring") and isinstance(thing[1], tuple)


def ground_fault(told, bare, ends, ground, k):
    """The first fault of ground k, a chain from the first to the second of the ends, or a ring.

    Its letters are not to come to the towers of the bare lot; where it has no fault, None.
    """
    kind, steps = ground
    place, aim = ends if kind == "chain" else (None, None)
    for j, step in enumerate(steps):
        if not is_step(told, step):
            return "step", (k, j)
        start = told[step][0]
        if start in bare or step[1] in bare:
            return "lot", (k, j)
        if place is not None and start != place:
            return "from", (k, j)
        # A ring may begin anywhere, and has to end there.
        aim = start if aim is None else aim
        place = step[1]
    return ("end", k) if len(steps) == 0 or place != aim else None
