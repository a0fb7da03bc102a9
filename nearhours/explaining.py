"""Papers on whether a lot explains a run."""

from nearhours.clashes import clash
from nearhours.worlds import some_gains


def explain_paper(town, run, lot):
    """A paper that lets_explained accepts: gains that fit, or a ring that clashes."""
    gains = some_gains(town, run, lot)
    if gains is None:
        return "ring", clash(town, run, lot)
    return "gains", gains
