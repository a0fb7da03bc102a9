"""The checker of papers by which no setting is nearer."""

from nearhours.balances import greatest_of, least_terms
from nearhours.doubts import has_any, is_under
from nearhours.faults import is_lot
from nearhours.joins import outside_of
from nearhours.kinds import is_tuple
from nearhours.paperparts import gains_fault
from nearhours.refusals import refuse_asked, refuse_paper, refuse_quarrel


def lets_ring(town, fears, run, thing):
    """A fraction than which no setting is nearer; None if no setting has a nearness."""
    refuse_asked(town, fears, run)
    refuse_quarrel(town, fears, run)
    refuse_paper(bound_fault(town, fears, run, thing))
    return None if thing[0] == "far" else mean_of(town, thing[1])


def bound_fault(town, fears, run, thing):
    """The first fault of any value as such a paper, None without one."""
    if is_tuple(thing, 2) and thing[0] == "circle" and isinstance(thing[1], tuple):
        return circle_fault(town, thing[1]) or steps_fault(town, fears, run, thing[1])
    if is_tuple(thing, 6) and thing[0] == "far":
        return far_fault(town, fears, run, thing[1:])
    return "shape", -1


def circle_fault(town, steps):
    """The first fault of a tuple as steps from tower to tower, None without one."""
    if len(steps) == 1:
        return "many", -1
    for k, step in enumerate(steps):
        if not is_told(town, step):
            return "step", k
        if step[0] in [ahead[0] for ahead in steps[:k]]:
            return "twice", k
    return None


def is_told(town, thing):
    """Whether any value is a triple of a tower, a lot and a tuple."""
    if not is_tuple(thing, 3) or thing[0] not in town[0]:
        return False
    return is_lot(town, thing[1]) and isinstance(thing[2], tuple)


def steps_fault(town, fears, run, steps):
    """The first fault of what the steps of a circle tell, None without one."""
    for k, (tower, lot, gains) in enumerate(steps):
        following = steps[(k + 1) % len(steps)][0]
        if not is_under(fears, lot) or has_any(lot, (tower, following)):
            return "lot", k
        if gains_fault(town, run, lot, gains) is not None:
            return "gains", k
    return None


def far_fault(town, fears, run, told):
    """The first fault of two towers, a lot, gains and a part, None without one."""
    one, other, lot, gains, part = told
    if one not in town[0]:
        return "one", -1
    if other not in town[0] or other == one:
        return "other", -1
    if not is_lot(town, lot) or not is_under(fears, lot) or has_any(lot, (one, other)):
        return "lot", -1
    if gains_fault(town, run, lot, gains) is not None:
        return "gains", -1
    if not is_lot(town, part) or has_any(part, lot) or other not in part or one in part:
        return "part", -1
    return crossing_fault(run, part, [tower for tower in outside_of(town, lot) if tower not in part])


def crossing_fault(run, part, rest):
    """That of the first letter between a tower of the part and one of the rest, None without one."""
    for index, (one, other, _, _) in enumerate(run):
        if (one in part and other in rest) or (one in rest and other in part):
            return "letter", index
    return None


def mean_of(town, steps):
    """The greater one of 0 and of the mean of what the steps tell."""
    told = []
    for k, (tower, lot, gains) in enumerate(steps):
        gain_of = dict(zip(outside_of(town, lot), gains))
        told.append(gain_of[steps[(k + 1) % len(steps)][0]] - gain_of[tower])
    return greatest_of([least_terms(sum(told), len(told))] if told else [])
