"""The checker of papers on whether an event is surely ahead of another one."""

from nearhours.courses import ties_between
from nearhours.doubts import bare_lots, has_any, is_under
from nearhours.faults import is_lot
from nearhours.joins import outside_of
from nearhours.kinds import is_tuple
from nearhours.paperparts import gains_fault, ground_fault, is_ground, sum_of, told_steps
from nearhours.refusals import refuse_claim, refuse_paper


def lets_claim(town, fears, run, early, late, thing):
    """True for a paper that early is surely ahead of late, False for one that it is not."""
    refuse_claim(town, fears, run, early, late)
    refuse_paper(claim_fault(town, fears, run, (early, late), thing))
    return thing[0] == "sure"


def claim_fault(town, fears, run, claim, thing):
    """The first fault of any value as a paper of the claim, None without one."""
    if is_tuple(thing, 2) and thing[0] == "sure" and isinstance(thing[1], tuple):
        return rows_fault(town, fears, run, claim, thing[1])
    if is_tuple(thing, 3) and thing[0] == "open":
        return open_fault(town, fears, run, claim, thing[1:])
    return "shape", -1


def rows_fault(town, fears, run, claim, rows):
    """The first fault of a tuple that is to have a ring or a chain for each lot, None without one."""
    early, late = claim
    lots = bare_lots(fears, (early[0], late[0]))
    if len(rows) != len(lots):
        return "many", -1
    told = told_steps(ties_between(town, run, ()))
    for k, (lot, row) in enumerate(zip(lots, rows)):
        fault = row_fault(told, lot, claim, row, k)
        if fault is not None:
            return fault
    return None


def row_fault(told, lot, claim, row, k):
    """The first fault of any value as row k, which is of this bare lot, None without one."""
    if not is_ground(row):
        return "row", k
    early, late = claim
    fault = ground_fault(told, lot, (early[0], late[0]), row, k)
    if fault is not None:
        return fault
    limit = 0 if row[0] == "ring" else late[1] - early[1]
    return ("sum", k) if sum_of(told, row[1]) >= limit else None


def open_fault(town, fears, run, claim, told):
    """The first fault of two values as a feared lot and gains that are against the claim."""
    early, late = claim
    lot, gains = told
    if not is_lot(town, lot) or not is_under(fears, lot) or has_any(lot, (early[0], late[0])):
        return "lot", -1
    if gains_fault(town, run, lot, gains) is not None:
        return "gains", -1
    gain_of = dict(zip(outside_of(town, lot), gains))
    if early[1] - gain_of[early[0]] < late[1] - gain_of[late[0]]:
        return "ahead", -1
    return None
