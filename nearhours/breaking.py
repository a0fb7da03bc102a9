"""Letters that break each bound."""

from nearhours.doubts import has_any, lot_less
from nearhours.parting import three_lots, two_lots
from nearhours.refusals import refuse_fears, refuse_many, refuse_town


def breaking_run(town, fears, many):
    """A full run that a feared lot explains, with a least nearness above many, or None; None if bounded."""
    refuse_town(town)
    refuse_fears(town, fears)
    refuse_many(many)
    views = unlike_views(town, fears)
    if views is None:
        return None
    # The worst circle goes by up to three towers, and by one of its steps alone a clock shows more.
    far = 3 * many + 1
    return tuple([letter_by(wire, views, far) for wire in town[1]])


def unlike_views(town, fears):
    """What some feared lots can tell of the same letters, as pairs (lot, those who show far more).

    Of each wire the views agree that leave both its towers. None if nearness has a bound.
    """
    three = three_lots(town, fears)
    if three is not None:
        one, other, last = three
        return (one, ()), (last, ()), (other, last)
    two = two_lots(town, fears)
    if two is not None:
        one, other, part = two
        return (one, ()), (other, lot_less(town[0], one + other + part))
    return None


def letter_by(wire, views, far):
    """A letter over the wire that is so late as can least be, by the first view that leaves both towers."""
    one, other, low, _ = wire
    for lot, moved in views:
        if not has_any(lot, (one, other)):
            return one, other, 0, low + shown_more(moved, other, far) - shown_more(moved, one, far)
    return one, other, 0, low


def shown_more(moved, tower, far):
    """How much more the clock of the tower shows if those are moved."""
    return far if tower in moved else 0
