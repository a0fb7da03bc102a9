"""Houses that let no letter through that nobody could explain."""

from nearhours.doubts import is_explained
from nearhours.errors import Barred
from nearhours.housecourses import reason_against, refuse_impossible, run_by
from nearhours.houses import House
from nearhours.suspects import least_suspects


class Trusty(House):
    """A House that refuses each letter with which no feared lot would explain the run."""

    def __init__(self, town, fears):
        super().__init__(town, fears)

    def hear(self, letter):
        """Applies that the letter came; tells the state after it."""
        return self._apply(("hear", letter), refuse_doubtful)

    def apply(self, event):
        """Applies the event; tells the state after it."""
        return self._apply(event, refuse_doubtful)

    def barred(self, event):
        """The reason for which any value would be refused, None without one."""
        reason = reason_against(self, self._events, event)
        if reason is None and is_doubtful(self, self._events, event):
            return "unexplained"
        return reason

    def tried(self, *events):
        """The run, the least nearness and the state as after these events; nothing changes."""
        return self._tried(events, refuse_doubtful)

    def do_all(self, *events, keep=False):
        """Applies the events and tells how many; if one is refused none stays, with keep those ahead of it."""
        return self._do_all(events, keep, refuse_doubtful)


def is_doubtful(house, events, event):
    """Whether a possible event is a letter with which no feared lot would explain the run."""
    if event[0] != "hear":
        return False
    return not is_explained(house.town_now, house.fears_now, run_by((*events, event)))


def refuse_doubtful(house, events, event):
    """Raises InvalidEvent for any value that is not possible, Barred for a letter that nobody explains."""
    refuse_impossible(house, events, event)
    if is_doubtful(house, events, event):
        raise Barred(event, least_suspects(house.town_now, house.fears_now, run_by(events))[0])
