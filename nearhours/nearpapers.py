"""Papers by which a setting is so near."""

from nearhours.doubts import bare_lots
from nearhours.joins import pairs_of
from nearhours.settings import best_setting
from nearhours.spreads import ground_of


def near_paper(town, fears, run):
    """A paper that lets_near takes to the least nearness, None if there is none."""
    setting = best_setting(town, fears, run)
    if setting is None:
        return None
    grounds = [
        ground_of(town, run, lot, one, other)
        for one, other in pairs_of(town[0])
        for lot in bare_lots(fears, (one, other))
    ]
    return "near", setting, tuple(grounds)
