"""The checker of papers on whether a lot explains a run."""

from nearhours.courses import ties_between
from nearhours.kinds import is_tuple
from nearhours.paperparts import gains_fault, is_step, sum_of, told_steps
from nearhours.refusals import refuse_case, refuse_paper


def lets_explained(town, run, lot, thing):
    """True for gains that fit, False for a ring that clashes; InvalidPaper for all else."""
    refuse_case(town, run, lot)
    refuse_paper(explained_fault(town, run, lot, thing))
    return thing[0] == "gains"


def explained_fault(town, run, lot, thing):
    """The first fault of any value as such a paper, None without one."""
    if not is_tuple(thing, 2) or not isinstance(thing[1], tuple):
        return "shape", -1
    if thing[0] == "gains":
        return gains_fault(town, run, lot, thing[1])
    if thing[0] == "ring":
        return ring_fault(told_steps(ties_between(town, run, lot)), thing[1])
    return "shape", -1


def ring_fault(told, steps):
    """The first fault of a tuple as a ring of the ties told that clashes, None without one."""
    if len(steps) == 0:
        return "steps", -1
    for k, step in enumerate(steps):
        if not is_step(told, step):
            return "step", k
        if k > 0 and told[step][0] != steps[k - 1][1]:
            return "from", k
    if told[steps[0]][0] != steps[-1][1]:
        return "from", 0
    if sum_of(told, steps) >= 0:
        return "sum", -1
    return None
