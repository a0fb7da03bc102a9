"""The logs of houses, and the events in them."""

from nearhours.faults import fears_fault, town_fault
from nearhours.kinds import is_letter_form, is_number, is_tuple


def is_log(thing):
    """Whether any value is a log: the town and the fears of a house, and events by form."""
    if not isinstance(thing, tuple) or len(thing) == 0 or not is_start(thing[0]):
        return False
    return all([is_event_form(event) for event in thing[1:]])


def is_start(thing):
    """Whether any value is what a log begins with."""
    if not is_tuple(thing, 3) or thing[0] != "house":
        return False
    _, town, fears = thing
    return town_fault(town) is None and fears_fault(town, fears) is None


def is_event_form(thing):
    """Whether any value is an event by form: a letter that is heard, or the index of one that is lost."""
    if not is_tuple(thing, 2):
        return False
    word, told = thing
    return word == "hear" and is_letter_form(told) or word == "lose" and is_number(told)


def are_event_forms(thing):
    """Whether any value is a tuple of events by form."""
    return isinstance(thing, tuple) and all([is_event_form(event) for event in thing])
