"""The checker of runs."""

from nearhours.faults import run_fault
from nearhours.refusals import refuse_paper, refuse_town


def lets_run(town, thing):
    """How many letters a run of the town has; InvalidPaper for what is none."""
    refuse_town(town)
    refuse_paper(run_fault(town, thing))
    return len(thing)
