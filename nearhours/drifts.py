"""Clocks that gain or lose as they run. Nothing is checked here: all arguments are sound.

Events are pairs (tower, hour). All amounts are integers, in thousandths, as rates are.
"""

from nearhours.balances import least_terms, what_remains
from nearhours.courses import least_sums, ties_between
from nearhours.doubts import feared_of, is_farther
from nearhours.joins import events_of, is_outside, pairs_of
from nearhours.spreads import farthest_gains

WHOLE = 1000


def asked_events(town, lot, hours):
    """The asked events of the towers that are not in the lot, ascending."""
    return tuple([(tower, hour) for tower, hour in zip(town[0], hours) if tower not in lot])


def letter_events(run, lot):
    """The events of the letters between towers that are not in the lot, ascending."""
    return events_of([letter for letter in run if is_outside(letter, lot)])


def all_events(town, run, lot, hours):
    """The events of the run, the lot and hours, ascending."""
    return tuple(sorted(set(letter_events(run, lot) + asked_events(town, lot, hours))))


def event_in(letter, tower):
    """The event at which the tower, one of its two, sent or heard the letter."""
    one, _, sent, heard = letter
    return (tower, sent) if tower == one else (tower, heard)


def letter_ties(town, run, lot):
    """The ties (event, event, most, index) of the letters between towers that are not in the lot."""
    return [
        (event_in(run[index], one), event_in(run[index], other), WHOLE * most, index)
        for one, other, most, index in ties_between(town, run, lot)
    ]


def clock_ties(town, rates, events):
    """The ties between the events of each tower that follow one another, events being ascending."""
    rate_of = dict(zip(town[0], rates))
    steps = [(early, late) for early, late in zip(events, events[1:]) if early[0] == late[0]]
    ahead = [(early, late, (late[1] - early[1]) * rate_of[early[0]][1], -1) for early, late in steps]
    back = [(late, early, (early[1] - late[1]) * rate_of[early[0]][0], -1) for early, late in steps]
    # In this order one round of least_sums goes along the whole of a clock, both ways.
    return ahead + back[::-1]


def ties_at(town, rates, run, lot, events):
    """All ties between the events, which are ascending and have those of the letters."""
    return tuple(letter_ties(town, run, lot) + clock_ties(town, rates, events))


def explains_at(town, rates, run, lot):
    """Whether the lot explains the run at rates."""
    events = letter_events(run, lot)
    _, _, fallen = least_sums(ties_at(town, rates, run, lot, events), events, len(events))
    return fallen is None


def suspects_by(town, rates, fears, run):
    """The set of the suspects at rates."""
    return tuple([lot for lot in feared_of(fears) if explains_at(town, rates, run, lot)])


def is_explained_at(town, rates, fears, run):
    """Whether some feared lot explains the run at rates."""
    # With it each lot does that has all its towers, so one that is told.
    return any([explains_at(town, rates, run, lot) for lot in fears])


def reaches_by(town, rates, lots, run, hours):
    """The pair (reach, lot) by each pair of towers that one of the lots leaves; all are suspects."""
    found = {}
    for lot in lots:
        events = all_events(town, run, lot, hours)
        ties = ties_at(town, rates, run, lot, events)
        for (one, other), most in way_rows(ties, asked_events(town, lot, hours), len(events)):
            if (one, other) not in found or is_farther(most, found[one, other][0]):
                found[one, other] = (most, lot)
    return found


def way_rows(ties, asked, many):
    """The pairs (two towers, way between their asked events) by ties between so many events."""
    rows = []
    for start in asked:
        sums, _, _ = least_sums(ties, (start,), many)
        rows.extend([((start[0], end[0]), sums.get(end)) for end in asked if end != start])
    return rows


def rows_by(town, found):
    """The triples (one, other, reach) of what reaches_by found, ascending."""
    return tuple([
        (one, other, found[one, other][0]) for one, other in pairs_of(town[0]) if (one, other) in found
    ])


def gains_by(town, rates, run, lot, hours, one):
    """Gains of the events that fit, each as much more as can be than that of one's asked event.

    They are triples (tower, hour, gain), the gains fractions.
    """
    events = all_events(town, run, lot, hours)
    start = (one, dict(zip(town[0], hours))[one])
    gains = farthest_gains(ties_at(town, rates, run, lot, events), events, start)
    return tuple([(*event, in_hours((gain, 1))) for event, gain in zip(events, gains)])


def do_fit_at(town, rates, run, lot, rows):
    """Whether gains of the events of the run and the lot fit, as triples (tower, hour, gain), ascending."""
    gain_of = {(tower, hour): in_parts(gain) for tower, hour, gain in rows}
    ties = ties_at(town, rates, run, lot, [(tower, hour) for tower, hour, _ in rows])
    return all([what_remains(most, gain_of[one], gain_of[other])[0] >= 0 for one, other, most, _ in ties])


def in_hours(parts):
    """A fraction of thousandths as one of hours."""
    return least_terms(parts[0], WHOLE * parts[1])


def in_parts(hours):
    """A fraction of hours as one of thousandths."""
    return least_terms(WHOLE * hours[0], hours[1])
