"""Papers on who lied, and on there being no suspect."""

from nearhours.courses import ring_outside
from nearhours.doubts import bare_lots
from nearhours.refusals import refuse_asked, refuse_tower
from nearhours.worlds import some_gains


def lie_paper(town, fears, run, tower):
    """A paper that lets_lie accepts: the tower surely lied, or a suspect without it."""
    refuse_asked(town, fears, run)
    refuse_tower(town, tower)
    lots = bare_lots(fears, (tower,))
    rings = rings_by(town, run, lots)
    if None in rings:
        lot = lots[rings.index(None)]
        return "cleared", lot, some_gains(town, run, lot)
    return "sure", rings


def quarrel_paper(town, fears, run):
    """A paper that lets_quarrel accepts, None if there is a suspect."""
    refuse_asked(town, fears, run)
    rings = rings_by(town, run, fears)
    return None if None in rings else rings


def rings_by(town, run, lots):
    """For each lot, in order, a clashing ring that is clear of it, None where there is none."""
    return tuple([ring_outside(town, run, lot) for lot in lots])
