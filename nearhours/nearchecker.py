"""The checker of papers by which a setting is so near."""

from nearhours.balances import greatest_of, what_remains
from nearhours.courses import ties_between
from nearhours.doubts import bare_lots
from nearhours.joins import pairs_of
from nearhours.kinds import are_fractions, is_tuple
from nearhours.paperparts import ground_fault, is_ground, sum_of, told_steps
from nearhours.refusals import refuse_asked, refuse_paper, refuse_quarrel


def lets_near(town, fears, run, thing):
    """A fraction that the nearness of the paper's setting does not pass."""
    refuse_asked(town, fears, run)
    refuse_quarrel(town, fears, run)
    refuse_paper(near_fault(town, fears, run, thing))
    _, setting, grounds = thing
    taken = dict(zip(town[0], setting))
    told = told_steps(ties_between(town, run, ()))
    return greatest_of([
        what_remains(sum_of(told, steps), taken[one], taken[other])
        for (one, other, _), (kind, steps) in zip(places_of(town, fears), grounds) if kind == "chain"
    ])


def places_of(town, fears):
    """What the grounds are of: the triples (one, other, bare lot), in order."""
    return tuple([
        (one, other, lot) for one, other in pairs_of(town[0]) for lot in bare_lots(fears, (one, other))
    ])


def near_fault(town, fears, run, thing):
    """The first fault of any value as such a paper, None without one."""
    if not is_tuple(thing, 3) or thing[0] != "near":
        return "shape", -1
    _, setting, grounds = thing
    if not isinstance(setting, tuple) or not isinstance(grounds, tuple):
        return "shape", -1
    if not are_fractions(setting, len(town[0])):
        return "setting", -1
    places = places_of(town, fears)
    if len(grounds) != len(places):
        return "many", -1
    told = told_steps(ties_between(town, run, ()))
    for k, (place, ground) in enumerate(zip(places, grounds)):
        fault = place_fault(told, place, ground, k)
        if fault is not None:
            return fault
    return None


def place_fault(told, place, ground, k):
    """The first fault of any value as ground k, which is of this place, None without one."""
    if not is_ground(ground):
        return "ground", k
    one, other, lot = place
    fault = ground_fault(told, lot, (one, other), ground, k)
    if fault is not None:
        return fault
    return ("clash", k) if ground[0] == "ring" and sum_of(told, ground[1]) >= 0 else None
