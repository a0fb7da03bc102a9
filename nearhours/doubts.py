"""Feared lots, suspects and reaches. Nothing is checked here: all arguments are sound."""

from nearhours.courses import explains, least_sums, ties_between
from nearhours.joins import is_part, pairs_of


def parts_of(lot):
    """All lots that have some of the towers of this one, from none to all."""
    parts = [()]
    for tower in lot:
        parts = parts + [(*part, tower) for part in parts]
    return parts


def feared_of(fears):
    """The set of all feared lots."""
    return tuple(sorted({lot for told in fears for lot in parts_of(told)}))


def is_under(fears, lot):
    """Whether all towers of the lot are in one of the lots told."""
    return any([is_part(lot, told) for told in fears])


def has_any(lot, towers):
    """Whether one of the towers is in the lot."""
    return any([tower in lot for tower in towers])


def lot_less(lot, towers):
    """The lot without these towers."""
    return tuple([tower for tower in lot if tower not in towers])


def bare_lots(fears, towers):
    """For each lot of fears, in order, the lot without these towers."""
    return tuple([lot_less(lot, towers) for lot in fears])


def suspects_of(town, fears, run):
    """The set of the suspects."""
    return tuple([lot for lot in feared_of(fears) if explains(town, run, lot)])


def is_explained(town, fears, run):
    """Whether some feared lot explains the run."""
    # With it each lot does that has all its towers, so one that is told.
    return any([explains(town, run, lot) for lot in fears])


def reach_row(town, fears, run, one, other):
    """The pair (lot, reach) of the reach from one to other, and of a suspect by which it is so.

    None if no suspect leaves both. The lots told, without the two, are enough: no way is less by a
    greater lot.
    """
    found = None
    for lot in bare_lots(fears, (one, other)):
        if explains(town, run, lot):
            sums, _, _ = least_sums(ties_between(town, run, lot), (one,), len(town[0]))
            most = sums.get(other)
            if found is None or is_farther(most, found[1]):
                found = (lot, most)
    return found


def is_farther(most, known):
    """Whether an amount is greater than a known one, None being that of what has no greatest."""
    if most is None or known is None:
        return known is not None
    return most > known


def reaches_of(town, fears, run):
    """The set of the triples (one, other, reach) of all two towers for which a reach is told."""
    return reaches_between(town, fears, run, pairs_of(town[0]))


def reaches_between(town, fears, run, pairs):
    """The triples (one, other, reach) of these pairs of towers, in order, where a reach is told."""
    rows = [(one, other, reach_row(town, fears, run, one, other)) for one, other in pairs]
    return tuple([(one, other, row[1]) for one, other, row in rows if row is not None])
