"""What the events of a house come to. Only the event that is asked of is checked here."""

from nearhours.doubts import is_explained
from nearhours.errors import InvalidEvent
from nearhours.faults import is_letter
from nearhours.houselogs import is_event_form
from nearhours.settings import nearest

LETTERS = 16


def heard_by(events):
    """All letters that were heard, also those left out."""
    return tuple([told for word, told in events if word == "hear"])


def run_by(events):
    """The letters that were heard and are not left out."""
    lost = [told for word, told in events if word == "lose"]
    return tuple([letter for k, letter in enumerate(heard_by(events)) if k not in lost])


def state_by(town, fears, run):
    """Whether some feared lot explains the run, as a word."""
    return "explained" if is_explained(town, fears, run) else "unexplained"


def nearness_told(town, fears, run):
    """The least nearness of a setting, None if none has one, - if no feared lot explains the run."""
    return nearest(town, fears, run) if is_explained(town, fears, run) else "-"


def reason_against(house, events, event):
    """The first reason for which the house refuses any value behind these events, None without one."""
    if not is_event_form(event):
        return "shape"
    if len(events) >= house.MOST:
        return "full"
    word, told = event
    if word == "hear":
        if not is_letter(house.town_now, told):
            return "letter"
        return "many" if len(run_by(events)) >= LETTERS else None
    if told >= len(heard_by(events)):
        return "index"
    return "lost" if event in events else None


def refuse_impossible(house, events, event):
    """Raises InvalidEvent for any value that the house refuses behind these events."""
    reason = reason_against(house, events, event)
    if reason is not None:
        raise InvalidEvent(event, reason)


def course_behind(house, events, more, refuse):
    """The events with those more that come, each of which the function refuse lets through."""
    for event in more:
        refuse(house, events, event)
        events = (*events, event)
    return events
