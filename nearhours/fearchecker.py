"""The checker of fears."""

from nearhours.faults import fears_fault
from nearhours.refusals import refuse_paper, refuse_town


def lets_fears(town, thing):
    """How many lots fears of the town have; InvalidPaper for what are none."""
    refuse_town(town)
    refuse_paper(fears_fault(town, thing))
    return len(thing)
