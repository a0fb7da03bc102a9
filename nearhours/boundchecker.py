"""The checker of papers by which nearness has no bound."""

from nearhours.doubts import has_any, is_under, lot_less
from nearhours.faults import is_lot
from nearhours.kinds import is_tuple
from nearhours.refusals import refuse_fears, refuse_paper, refuse_town


def lets_unbound(town, fears, thing):
    """3 for a paper of three lots, 2 for one of two."""
    refuse_town(town)
    refuse_fears(town, fears)
    refuse_paper(unbound_fault(town, fears, thing))
    return 3 if thing[0] == "three" else 2


def unbound_fault(town, fears, thing):
    """The first fault of any value as such a paper, None without one."""
    if is_tuple(thing, 2) and thing[0] == "three" and is_tuple(thing[1], 3):
        return three_fault(town, fears, thing[1])
    if is_tuple(thing, 4) and thing[0] == "two":
        return two_fault(town, fears, thing[1:])
    return "shape", -1


def three_fault(town, fears, lots):
    """The first fault of a triple as nonempty feared lots that part the towers, None without one."""
    seen = ()
    for k, lot in enumerate(lots):
        if not is_lot(town, lot) or lot == () or not is_under(fears, lot):
            return "lot", k
        if has_any(lot, seen):
            return "twice", k
        seen = seen + lot
    lacking = lot_less(town[0], seen)
    return ("lacks", lacking[0]) if lacking else None


def two_fault(town, fears, told):
    """The first fault of two lots and a part of what they leave, None without one."""
    for k, lot in enumerate(told[:2]):
        if not is_lot(town, lot) or not is_under(fears, lot):
            return "lot", k
    one, other, part = told
    if not is_lot(town, part) or part == ():
        return "part", -1
    barred = [tower for tower in part if tower in one + other]
    if barred:
        return "in", barred[0]
    further = lot_less(town[0], one + other + part)
    if not further:
        return "all", -1
    return joining_fault(town, part, further)


def joining_fault(town, part, further):
    """That of the first wire that joins a tower of the part and a further one, None without one."""
    for k, wire in enumerate(town[1]):
        if has_any(part, wire[:2]) and has_any(further, wire[:2]):
            return "wire", k
    return None
