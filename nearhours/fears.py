"""Which lots are feared."""

from nearhours.doubts import feared_of, is_under
from nearhours.joins import is_part
from nearhours.refusals import refuse_fears, refuse_lot, refuse_town


def is_feared(town, fears, lot):
    """Whether all towers of the lot are in one of the lots told."""
    refuse_town(town)
    refuse_fears(town, fears)
    refuse_lot(town, lot)
    return is_under(fears, lot)


def feared_lots(town, fears):
    """The set of all feared lots."""
    refuse_town(town)
    refuse_fears(town, fears)
    return feared_of(fears)


def greatest_fears(town, fears):
    """The set of the feared lots that are part of no other feared lot."""
    refuse_town(town)
    refuse_fears(town, fears)
    # A greatest one is always told: each feared lot is part of one that is.
    return tuple([
        lot for lot in fears
        if not any([is_part(lot, told) for told in fears if told != lot])
    ])
