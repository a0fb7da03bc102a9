"""The checkers of papers on who lied, and on there being no suspect."""

from nearhours.courses import ties_between
from nearhours.doubts import bare_lots, has_any, is_under
from nearhours.faults import is_lot
from nearhours.kinds import is_tuple
from nearhours.paperparts import gains_fault, is_ring, sum_of, told_steps
from nearhours.refusals import refuse_asked, refuse_paper, refuse_tower


def lets_lie(town, fears, run, tower, thing):
    """True for a paper that the tower lied, False for one of a suspect without it."""
    refuse_asked(town, fears, run)
    refuse_tower(town, tower)
    refuse_paper(lie_fault(town, fears, run, tower, thing))
    return thing[0] == "sure"


def lets_quarrel(town, fears, run, thing):
    """How many rings a paper has by which there is no suspect."""
    refuse_asked(town, fears, run)
    fault = rings_fault(town, run, fears, thing) if isinstance(thing, tuple) else ("shape", -1)
    refuse_paper(fault)
    return len(thing)


def lie_fault(town, fears, run, tower, thing):
    """The first fault of any value as a paper of the tower, None without one."""
    if is_tuple(thing, 2) and thing[0] == "sure" and isinstance(thing[1], tuple):
        return rings_fault(town, run, bare_lots(fears, (tower,)), thing[1])
    if is_tuple(thing, 3) and thing[0] == "cleared":
        _, lot, gains = thing
        if not is_lot(town, lot) or not is_under(fears, lot) or tower in lot:
            return "lot", -1
        return gains_fault(town, run, lot, gains)
    return "shape", -1


def rings_fault(town, run, lots, rings):
    """The first fault of a tuple that is to have a clashing ring clear of each lot, None without one."""
    if len(rings) != len(lots):
        return "many", -1
    told = told_steps(ties_between(town, run, ()))
    for k, (lot, steps) in enumerate(zip(lots, rings)):
        if not is_ring(told, steps):
            return "ring", k
        if has_any(lot, [tower for _, tower in steps]):
            return "clear", k
        if sum_of(told, steps) >= 0:
            return "clash", k
    return None
