"""The checker of papers by which no setting is nearer, of clocks that gain or lose as they run."""

from nearhours.balances import is_more, mean_of_all, what_remains
from nearhours.doubts import has_any, is_under
from nearhours.drifts import all_events, do_fit_at
from nearhours.faults import is_lot
from nearhours.kinds import is_fraction, is_integer, is_tuple
from nearhours.refusals import refuse_asked_at, refuse_paper


def lets_apart(town, rates, fears, run, hours, thing):
    """The value of a paper, a fraction than which no setting at hours is nearer."""
    refuse_asked_at(town, rates, fears, run, hours)
    refuse_paper(apart_fault(town, rates, fears, run, hours, thing))
    return thing[1]


def apart_fault(town, rates, fears, run, hours, thing):
    """The first fault of any value as such a paper, None without one."""
    if not is_tuple(thing, 3) or thing[0] != "apart" or not isinstance(thing[2], tuple):
        return "shape", -1
    _, value, steps = thing
    if not is_fraction(value) or value[0] < 0:
        return "value", -1
    for k, step in enumerate(steps):
        if not is_step_to(town, fears, step, steps[(k + 1) % len(steps)]):
            return "step", k
        _, lot, rows = step
        if not are_gains(all_events(town, run, lot, hours), rows):
            return "events", k
        if not do_fit_at(town, rates, run, lot, rows):
            return "fit", k
    return ("mean", -1) if is_more(value, mean_by(town, hours, steps)) else None


def is_step_to(town, fears, thing, following):
    """Whether any value is a triple of a tower, a feared lot and a tuple, and goes to the tower that follows."""
    if not is_tuple(thing, 3) or not is_tuple(following, 3):
        return False
    one, lot, rows = thing
    if one not in town[0] or not is_lot(town, lot) or not is_under(fears, lot) or not isinstance(rows, tuple):
        return False
    other = following[0]
    return other in town[0] and other != one and not has_any(lot, (one, other))


def are_gains(events, rows):
    """Whether a tuple has a triple of each of the events, in order, and of a fraction."""
    if len(rows) != len(events):
        return False
    return all([is_gain(event, row) for event, row in zip(events, rows)])


def is_gain(event, thing):
    """Whether any value is a triple of the event and of a fraction."""
    if not is_tuple(thing, 3) or not is_integer(thing[1]):
        return False
    return thing[:2] == event and is_fraction(thing[2])


def mean_by(town, hours, steps):
    """The mean of what the steps tell, 0 without steps."""
    asked = dict(zip(town[0], hours))
    told = []
    for k, (one, _, rows) in enumerate(steps):
        other = steps[(k + 1) % len(steps)][0]
        gain_of = {(tower, hour): gain for tower, hour, gain in rows}
        told.append(what_remains(0, gain_of[other, asked[other]], gain_of[one, asked[one]]))
    return mean_of_all(told)
