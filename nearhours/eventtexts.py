"""Events and logs written as lines of words."""

from nearhours.errors import NotUsable
from nearhours.houselogs import is_event_form
from nearhours.refusals import refuse_log
from nearhours.towntexts import line_of, town_text


def event_line(event):
    """The line of an event: its word, and the letter or the index."""
    if not is_event_form(event):
        raise NotUsable("event", -1)
    word, told = event
    return line_of((word, *told) if word == "hear" else (word, told))


def log_lines(log):
    """The lines of a log, as a list: how many there are of the town and the fears, these, and the events."""
    refuse_log(log)
    _, town, fears = log[0]
    lines = town_text(town).split("\n")
    first = line_of(("house", len(lines), len(fears)))
    lots = [line_of(("lot", *lot)) for lot in fears]
    return [first] + lines + lots + [event_line(event) for event in log[1:]]
