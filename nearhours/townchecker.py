"""The checker of towns."""

from nearhours.faults import town_fault
from nearhours.refusals import refuse_paper


def lets_town(thing):
    """How many wires a town has; InvalidPaper for what is none."""
    refuse_paper(town_fault(thing))
    return len(thing[1])
