"""Events and logs read from lines of words."""

from nearhours.errors import InvalidText, NotUsable
from nearhours.kinds import is_name
from nearhours.townreadings import town_read
from nearhours.wordreading import is_count, is_decimal, misfit_field, refuse_field


def read_event(line):
    """The event that the string writes; InvalidText for other strings."""
    if not isinstance(line, str):
        raise NotUsable("line", -1)
    return event_by(line, 0)


def read_log(lines):
    """The log that the list of lines writes; InvalidText for other lists of lines."""
    if not are_lines(lines):
        raise NotUsable("lines", -1)
    many, lots = counts_by(lines[0] if lines else "")
    start = many + lots + 1
    if len(lines) < start:
        raise InvalidText(len(lines), 0)
    town = town_by(lines[1:many + 1])
    fears = fears_by(town, lines[many + 1:start], many + 1)
    events = [event_by(line, start + k) for k, line in enumerate(lines[start:])]
    return ("house", town, fears), *events


def are_lines(thing):
    """Whether any value is a list of strings without newlines."""
    return isinstance(thing, list) and all([isinstance(line, str) and "\n" not in line for line in thing])


def event_by(line, k):
    """The event that line k writes."""
    words = line.split(" ")
    if words[0] == "lose":
        refuse_field(k, lose_misfit(words))
        return "lose", int(words[1])
    refuse_field(k, hear_misfit(words))
    return "hear", (words[1], words[2], int(words[3]), int(words[4]))


def lose_misfit(words):
    """The field from which on this is no line of a letter that is left out; its first word is one."""
    def stands(field):
        return field == 0 or is_count(words[field], 0)

    return misfit_field(words, 2, stands)


def hear_misfit(words):
    """The field from which on this is no line of a letter that was heard."""
    def stands(field):
        word = words[field]
        if field == 0:
            return word == "hear"
        return is_name(word) if field < 3 else is_decimal(word)

    return misfit_field(words, 5, stands)


def counts_by(line):
    """How many lines of a town and how many lots are told by the first line of a log."""
    words = line.split(" ")

    def stands(field):
        return words[0] == "house" if field == 0 else is_count(words[field], 1)

    refuse_field(0, misfit_field(words, 3, stands))
    return int(words[1]), int(words[2])


def town_by(lines):
    """The town that these lines write, which stand behind the first line."""
    text = "\n".join(lines)
    try:
        return town_read(text)
    except InvalidText as wrong:
        raise InvalidText(wrong.line + 1, wrong.field)


def fears_by(town, lines, first):
    """The fears that these lines write, the first of which is line first."""
    lots = []
    for k, line in enumerate(lines):
        words = line.split(" ")
        refuse_field(first + k, lot_misfit(town, words))
        lot = tuple(words[1:])
        # Whether the lot comes behind the one before is looked at when its towers stand.
        if k > 0 and lot <= lots[-1]:
            raise InvalidText(first + k, 0)
        lots.append(lot)
    return tuple(lots)


def lot_misfit(town, words):
    """The field from which on this is no line of a lot of the town."""
    def stands(field):
        word = words[field]
        if field == 0:
            return word == "lot"
        return word in town[0] and (field == 1 or word > words[field - 1])

    return misfit_field(words, len(words), stands)
