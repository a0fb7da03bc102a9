"""A desk: a house that is asked by rows of words, and answers so."""

from nearhours.errors import InvalidRow, InvalidText
from nearhours.eventreadings import read_event, read_log
from nearhours.eventtexts import event_line
from nearhours.houses import house_after
from nearhours.towntexts import line_of, lot_words


def suspects_answer(house):
    """The suspects, each as its towers."""
    return line_of([lot_words(lot, "*") for lot in house.suspects_now])


def sure_answer(house):
    """The towers that surely lied."""
    return line_of(house.sure_now)


def nearest_answer(house):
    """The least nearness of a setting."""
    nearness = house.nearest_now
    if nearness is None:
        return "none"
    return nearness if nearness == "-" else fraction_words(nearness)


def setting_answer(house):
    """What is taken from the hours of each tower."""
    setting = house.setting_now
    return "" if setting is None else line_of([fraction_words(taken) for taken in setting])


def run_answer(house):
    """The letters of the run."""
    return " / ".join([line_of(letter) for letter in house.run_now])


def state_answer(house):
    """The state."""
    return house.state()


def events_answer(house):
    """How many events there are."""
    return str(len(house))


def log_answer(house):
    """The lines of the events."""
    return " / ".join([event_line(event) for event in house])


def undo_answer(house):
    """The line of the event that is taken back."""
    return event_line(house.undo())


def fraction_words(fraction):
    """A fraction as it is written."""
    top, bottom = fraction
    return f"{top}/{bottom}"


ANSWERS = {
    "suspects": suspects_answer,
    "sure": sure_answer,
    "nearest": nearest_answer,
    "setting": setting_answer,
    "run": run_answer,
    "state": state_answer,
    "events": events_answer,
    "log": log_answer,
    "undo": undo_answer,
}


class Desk:
    """A desk with a house, at first none."""

    def __init__(self):
        self._house = None
        self._started = 0
        self._finished = 0

    def say(self, row):
        """The answer to a row; InvalidRow for any value that is none."""
        self._started += 1
        try:
            # Nothing is written as a sign of its own.
            return self._answer(row) or "-"
        finally:
            self._finished = self._started

    def counts(self):
        """How many calls of say were started, and how many finished."""
        return self._started, self._finished

    def _answer(self, row):
        """The answer to a row, an empty string for nothing."""
        opening = opening_by(row)
        if opening is not None:
            self._house = house_after(opening)
            return "ok"
        if self._house is None or not isinstance(row, str):
            raise InvalidRow(row)
        if row in ANSWERS:
            action = ANSWERS[row]
            return action(self._house)
        return self._answer_event(row)

    def _answer_event(self, row):
        """The answer to a row that is to tell an event, or to ask why one is barred."""
        is_asked = row.startswith("bars ")
        event = event_told(row[5:] if is_asked else row)
        if event is None:
            raise InvalidRow(row)
        return self._house.barred(event) if is_asked else self._house.apply(event)


def opening_by(row):
    """The log without events that any value writes, None if it writes none."""
    if not isinstance(row, str):
        return None
    lines = row.split("\n")
    try:
        log = read_log(lines)
    except InvalidText:
        return None
    return log if len(log) == 1 else None


def event_told(row):
    """The event that a row writes, None if it writes none."""
    try:
        return read_event(row)
    except InvalidText:
        return None
