"""Who can have lied."""

from nearhours.doubts import suspects_of
from nearhours.joins import is_part
from nearhours.refusals import refuse_asked


def suspects(town, fears, run):
    """The set of the suspects: the feared lots that explain the run."""
    refuse_asked(town, fears, run)
    return suspects_of(town, fears, run)


def least_suspects(town, fears, run):
    """The set of the suspects that have the fewest towers."""
    lots = suspects(town, fears, run)
    fewest = min([len(lot) for lot in lots], default=0)
    return tuple([lot for lot in lots if len(lot) == fewest])


def kernel_suspects(town, fears, run):
    """The set of the suspects no part of which, but itself, is a suspect."""
    lots = suspects(town, fears, run)
    return tuple([
        lot for lot in lots
        if not any([is_part(other, lot) for other in lots if other != lot])
    ])


def surely_lied(town, fears, run):
    """The set of the towers that are in each suspect; all towers if there is none."""
    lots = suspects(town, fears, run)
    return tuple([tower for tower in town[0] if all([tower in lot for lot in lots])])


def could_lie(town, fears, run):
    """The set of the towers that are in some suspect."""
    lots = suspects(town, fears, run)
    return tuple([tower for tower in town[0] if any([tower in lot for lot in lots])])
