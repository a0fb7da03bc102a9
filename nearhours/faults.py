"""The first fault of any value that is to be a town, a run, fears or rates: (word, at), None without one."""

from nearhours.joins import bounds_by_ends
from nearhours.kinds import are_integers, is_ascending, is_integer, is_towers, is_tuple


def is_wire_form(towers, thing):
    """Whether it is a quadruple of two of the towers, ascending, and of two integers."""
    if not is_tuple(thing, 4) or not are_integers(thing[2:], 2):
        return False
    one, other = thing[:2]
    return one in towers and other in towers and one < other


def is_wire(towers, thing):
    """Whether it is a wire of these towers."""
    return is_wire_form(towers, thing) and thing[2] <= thing[3]


def is_lot(town, thing):
    """Whether it is a lot of the town."""
    if not isinstance(thing, tuple):
        return False
    return all([tower in town[0] for tower in thing]) and is_ascending(thing)


def is_event(town, thing):
    """Whether it is an event of the town: a pair of a tower and an integer."""
    return is_tuple(thing, 2) and thing[0] in town[0] and is_integer(thing[1])


def town_fault(thing):
    """The first fault of any value as a town."""
    if not is_tuple(thing, 2):
        return "shape", -1
    towers, wires = thing
    if not is_towers(towers):
        return "towers", -1
    if not isinstance(wires, tuple):
        return "wires", -1
    for k, wire in enumerate(wires):
        if not is_wire_form(towers, wire):
            return "wire", k
        if wire[2] > wire[3]:
            return "width", k
        if k > 0 and wire[:2] <= wires[k - 1][:2]:
            return "order", k
    return None


def run_fault(town, thing):
    """The first fault of any value as a run of the town."""
    if not isinstance(thing, tuple):
        return "shape", -1
    bounds = bounds_by_ends(town)
    for k, letter in enumerate(thing):
        if not is_tuple(letter, 4):
            return "letter", k
        if letter[0] not in town[0] or letter[1] not in town[0]:
            return "towers", k
        if letter[:2] not in bounds:
            return "wire", k
        if not are_integers(letter[2:], 2):
            return "hours", k
    return None


def is_letter(town, thing):
    """Whether it is a letter of the town."""
    return run_fault(town, (thing,)) is None


def fears_fault(town, thing):
    """The first fault of any value as fears of the town."""
    if not isinstance(thing, tuple) or len(thing) == 0:
        return "shape", -1
    for k, lot in enumerate(thing):
        if not is_lot(town, lot):
            return "lot", k
        if k > 0 and lot <= thing[k - 1]:
            return "order", k
    return None


def is_rate(thing):
    """Whether it is a pair of integers from -999 to 999, the first one at most the second."""
    return are_integers(thing, 2) and -999 <= thing[0] <= thing[1] <= 999


def rates_fault(town, thing):
    """The first fault of any value as rates of the town."""
    if not isinstance(thing, tuple):
        return "shape", -1
    if len(thing) != len(town[0]):
        return "many", -1
    for k, rate in enumerate(thing):
        if not is_rate(rate):
            return "rate", k
    return None
