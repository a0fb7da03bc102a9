"""The checker of rates."""

from nearhours.faults import rates_fault
from nearhours.refusals import refuse_paper, refuse_town


def lets_rates(town, thing):
    """The greatest fast less slow of rates of the town; InvalidPaper for what are none."""
    refuse_town(town)
    refuse_paper(rates_fault(town, thing))
    return max([fast - slow for slow, fast in thing])
