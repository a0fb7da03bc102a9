"""Towns and runs read from lines of words."""

from nearhours.errors import InvalidText
from nearhours.joins import bounds_by_ends
from nearhours.kinds import is_name
from nearhours.refusals import refuse_text, refuse_town
from nearhours.wordreading import is_decimal, misfit_field, refuse_field


def town_read(text):
    """The town that the text writes; InvalidText for other strings."""
    refuse_text(text)
    towers, wires = [], []
    for k, line in enumerate(text.split("\n")):
        words = line.split(" ")
        if words[0] == "tower" and not wires:
            refuse_field(k, tower_misfit(words, towers))
            towers.append(words[1])
        elif words[0] == "wire" and k > 0:
            refuse_field(k, wire_misfit(words, towers, wires))
            wires.append((words[1], words[2], int(words[3]), int(words[4])))
        else:
            raise InvalidText(k, 0)
    return tuple(towers), tuple(wires)


def run_read(town, text):
    """The run of the town that the text writes; InvalidText for other strings."""
    refuse_town(town)
    refuse_text(text)
    if text == "-":
        return ()
    run = []
    bounds = bounds_by_ends(town)
    for k, line in enumerate(text.split("\n")):
        words = line.split(" ")
        refuse_field(k, letter_misfit(words, town[0], bounds))
        run.append((words[1], words[2], int(words[3]), int(words[4])))
    return tuple(run)


def tower_misfit(words, towers):
    """The field from which on this is no line of a tower behind these; its first word is one."""
    def stands(field):
        word = words[field]
        return field == 0 or is_name(word) and (not towers or word > towers[-1])

    return misfit_field(words, 2, stands)


def wire_misfit(words, towers, wires):
    """The field from which on this is no line of a wire behind these; its first word is one."""
    first, second = wires[-1][:2] if wires else ("", "")

    def stands(field):
        word = words[field]
        if field == 1:
            return word in towers and word >= first
        if field == 2:
            return word in towers and word > words[1] and (words[1] != first or word > second)
        if field == 3:
            return is_decimal(word)
        return field == 0 or is_decimal(word) and int(word) >= int(words[3])

    return misfit_field(words, 5, stands)


def letter_misfit(words, towers, bounds):
    """The field from which on this is no line of a letter."""
    def stands(field):
        word = words[field]
        if field == 0:
            return word == "letter"
        if field == 1:
            return word in towers
        if field == 2:
            return (words[1], word) in bounds
        return is_decimal(word)

    return misfit_field(words, 5, stands)
