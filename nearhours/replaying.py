"""Houses made anew from their logs."""

from nearhours.houses import house_after
from nearhours.refusals import refuse_log


def replayed(log):
    """A new House after the events of the log, InvalidEvent for the first one that is refused."""
    refuse_log(log)
    return house_after(log)
