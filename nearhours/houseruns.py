"""Events that a house goes through."""

from nearhours.errors import NotUsable
from nearhours.houselogs import are_event_forms
from nearhours.houses import House


def house_through(house, events):
    """Applies the events to the house as long as a feared lot explains its run; tells the log."""
    if not isinstance(house, House):
        raise NotUsable("house", -1)
    if not are_event_forms(events):
        raise NotUsable("events", -1)
    for event in events:
        if house.state() == "unexplained":
            break
        house.apply(event)
    return house.log()
