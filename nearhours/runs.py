"""Runs made, judged, picked from and moved."""

from nearhours.errors import NotUsable
from nearhours.joins import is_outside
from nearhours.kinds import are_integers
from nearhours.refusals import refuse_case, refuse_gains, refuse_run, refuse_town


def true_run(town, gains, lates):
    """The run of a letter for each wire, sent at 0, so late and by clocks of such gains."""
    refuse_town(town)
    towers, wires = town
    refuse_gains(towers, gains)
    if not are_lates(wires, lates):
        raise NotUsable("lates", -1)
    gain_of = dict(zip(towers, gains))
    return tuple([
        (one, other, 0, late + gain_of[other] - gain_of[one])
        for (one, other, _, _), late in zip(wires, lates)
    ])


def are_lates(wires, thing):
    """Whether any value is a tuple with an integer for each wire that the wire allows."""
    if not are_integers(thing, len(wires)):
        return False
    return all([low <= late <= high for (_, _, low, high), late in zip(wires, thing)])


def is_full(town, run):
    """Whether each wire has one letter or more, in whatever direction."""
    refuse_town(town)
    refuse_run(town, run)
    ends = {letter[:2]: True for letter in run}
    return all([(one, other) in ends or (other, one) in ends for one, other, _, _ in town[1]])


def letters_of(town, run, lot):
    """The letters of the run between two towers that are not in the lot."""
    refuse_case(town, run, lot)
    return tuple([letter for letter in run if is_outside(letter, lot)])


def moved_run(town, run, gains):
    """The run as it is if each clock showed so much more."""
    refuse_town(town)
    refuse_run(town, run)
    refuse_gains(town[0], gains)
    gain_of = dict(zip(town[0], gains))
    return tuple([
        (one, other, sent + gain_of[one], heard + gain_of[other])
        for one, other, sent, heard in run
    ])
