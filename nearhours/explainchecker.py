"""The checker of papers on whether a lot explains a run."""

from nearhours.courses import first_misfit, ties_between
from nearhours.joins import outside_of
from nearhours.kinds import are_integers, is_integer, is_tuple
from nearhours.refusals import refuse_case, refuse_paper


def lets_explained(town, run, lot, thing):
    """True for gains that fit, False for a ring that clashes; InvalidPaper for all else."""
    refuse_case(town, run, lot)
    refuse_paper(explained_fault(town, run, lot, thing))
    return thing[0] == "gains"


def explained_fault(town, run, lot, thing):
    """The first fault of any value as such a paper, None without one."""
    if not is_tuple(thing, 2) or not isinstance(thing[1], tuple):
        return "shape", -1
    ties = ties_between(town, run, lot)
    if thing[0] == "gains":
        return gains_fault(ties, outside_of(town, lot), thing[1])
    if thing[0] == "ring":
        return ring_fault(ties, thing[1])
    return "shape", -1


def gains_fault(ties, towers, gains):
    """The first fault of a tuple as gains of the towers that fit the ties, None without one."""
    if not are_integers(gains, len(towers)):
        return "gains", -1
    index = first_misfit(ties, towers, gains)
    return None if index is None else ("letter", index)


def ring_fault(ties, steps):
    """The first fault of a tuple as a ring of the ties that clashes, None without one."""
    if len(steps) == 0:
        return "steps", -1
    told = {(index, other): (one, most) for one, other, most, index in ties}
    for k, step in enumerate(steps):
        if not is_step(told, step):
            return "step", k
        if k > 0 and told[step][0] != steps[k - 1][1]:
            return "from", k
    if told[steps[0]][0] != steps[-1][1]:
        return "from", 0
    if sum([told[step][1] for step in steps]) >= 0:
        return "sum", -1
    return None


def is_step(told, thing):
    """Whether any value is a step by one of the ties told."""
    if not is_tuple(thing, 2) or not is_integer(thing[0]) or not isinstance(thing[1], str):
        return False
    return thing in told
