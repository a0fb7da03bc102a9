"""Towns and runs written as lines of words."""

from nearhours.errors import NotUsable
from nearhours.kinds import are_integers, is_name, is_tuple
from nearhours.refusals import refuse_town


def town_text(town):
    """The lines of a town: its towers, then its wires."""
    refuse_town(town)
    towers, wires = town
    return lines_of([("tower", tower) for tower in towers] + [("wire", *wire) for wire in wires])


def run_text(run):
    """The lines of a run of whatever town: its letters, or - if there are none."""
    if not isinstance(run, tuple) or not all([is_letter_form(letter) for letter in run]):
        raise NotUsable("run", -1)
    return lines_of([("letter", *letter) for letter in run]) if run else "-"


def is_letter_form(thing):
    """Whether any value is a quadruple of two names and two integers."""
    if not is_tuple(thing, 4):
        return False
    return is_name(thing[0]) and is_name(thing[1]) and are_integers(thing[2:], 2)


def lines_of(rows):
    """The rows as lines, their words with single spaces between."""
    return "\n".join([" ".join([str(word) for word in row]) for row in rows])
