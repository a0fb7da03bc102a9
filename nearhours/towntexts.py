"""Towns and runs written as lines of words."""

from nearhours.errors import NotUsable
from nearhours.kinds import is_letter_form
from nearhours.refusals import refuse_town


def town_text(town):
    """The lines of a town: its towers, then its wires."""
    refuse_town(town)
    towers, wires = town
    return lines_of([("tower", tower) for tower in towers] + [("wire", *wire) for wire in wires])


def run_text(run):
    """The lines of a run of whatever town: its letters, or - if there are none."""
    if not isinstance(run, tuple) or not all([is_letter_form(letter) for letter in run]):
        raise NotUsable("run", -1)
    return lines_of([("letter", *letter) for letter in run]) if run else "-"


def lines_of(rows):
    """The rows as lines."""
    return "\n".join([line_of(row) for row in rows])


def line_of(row):
    """The words of a row with single spaces between."""
    return " ".join([str(word) for word in row])


def lot_words(lot, nobody):
    """The towers of the lot with + between, the word nobody if it has none."""
    return "+".join(lot) if lot else nobody
