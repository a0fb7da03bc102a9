"""Houses of letters: towns in which letters come one by one."""

from nearhours.doubts import suspects_of
from nearhours.errors import NothingToUndo, NotUsable
from nearhours.housecourses import course_behind, heard_by, nearness_told, reason_against, refuse_impossible
from nearhours.housecourses import run_by, state_by
from nearhours.houselogs import is_event_form
from nearhours.refusals import refuse_fears, refuse_town
from nearhours.settings import best_setting
from nearhours.suspects import surely_lied


class House:
    """A town and fears, and the events by which letters were heard or left out."""

    MOST = 24

    def __init__(self, town, fears):
        refuse_town(town)
        refuse_fears(town, fears)
        self._town = town
        self._fears = fears
        self._events = ()
        self._started = 0
        self._finished = 0

    @property
    def town_now(self):
        """The town."""
        return self._town

    @property
    def fears_now(self):
        """The fears."""
        return self._fears

    @property
    def heard_now(self):
        """All letters that were heard, also those left out."""
        return heard_by(self._events)

    @property
    def run_now(self):
        """The run of the letters that are not left out."""
        return run_by(self._events)

    @property
    def suspects_now(self):
        """The set of the suspects."""
        return suspects_of(self._town, self._fears, run_by(self._events))

    @property
    def sure_now(self):
        """The set of the towers that surely lied."""
        return surely_lied(self._town, self._fears, run_by(self._events))

    @property
    def nearest_now(self):
        """The least nearness of a setting, None if none has one, - if no feared lot explains the run."""
        return nearness_told(self._town, self._fears, run_by(self._events))

    @property
    def setting_now(self):
        """A setting of this nearness, None without one."""
        run = run_by(self._events)
        if state_by(self._town, self._fears, run) == "unexplained":
            return None
        return best_setting(self._town, self._fears, run)

    def state(self):
        """Whether some feared lot explains the run, as a word."""
        return state_by(self._town, self._fears, run_by(self._events))

    def hear(self, letter):
        """Applies that the letter came; tells the state after it."""
        return self._apply(("hear", letter), refuse_impossible)

    def lose(self, index):
        """Applies that the letter with this index is left out; tells the state after it."""
        return self._apply(("lose", index), refuse_impossible)

    def apply(self, event):
        """Applies the event; tells the state after it."""
        return self._apply(event, refuse_impossible)

    def barred(self, event):
        """The reason for which any value would be refused, None without one."""
        return reason_against(self, self._events, event)

    def tried(self, *events):
        """The run, the least nearness and the state as after these events; nothing changes."""
        return self._tried(events, refuse_impossible)

    def undo(self):
        """Takes back the last event, and tells it."""
        self._started += 1
        try:
            if len(self._events) == 0:
                raise NothingToUndo(0)
            last = self._events[-1]
            self._events = self._events[:-1]
            return last
        finally:
            self._finished = self._started

    def do_all(self, *events, keep=False):
        """Applies the events and tells how many; if one is refused none stays, with keep those ahead of it."""
        return self._do_all(events, keep, refuse_impossible)

    def tally(self):
        """How many calls of hear, lose, apply, undo and do_all were started, and how many finished."""
        return self._started, self._finished

    def log(self):
        """The log of the house."""
        return ("house", self._town, self._fears), *self._events

    def __contains__(self, x):
        # The kind comes first: a bool would be equal to an integer otherwise.
        return is_event_form(x) and x in self._events

    def __len__(self):
        return len(self._events)

    def __iter__(self):
        return iter(self._events)

    def __eq__(self, other):
        if not isinstance(other, House):
            return False
        if self._town != other._town or self._fears != other._fears:
            return False
        return self._events == other._events

    def _apply(self, event, refuse):
        """Applies an event that the function refuse lets through; tells the state after it."""
        self._started += 1
        try:
            self._events = course_behind(self, self._events, (event,), refuse)
            return self.state()
        finally:
            self._finished = self._started

    def _tried(self, events, refuse):
        """What is as after these events, which the function refuse is to let through."""
        run = run_by(course_behind(self, self._events, events, refuse))
        return run, nearness_told(self._town, self._fears, run), state_by(self._town, self._fears, run)

    def _do_all(self, events, keep, refuse):
        """Applies the events that the function refuse lets through, and tells how many they are."""
        self._started += 1
        try:
            if not isinstance(keep, bool):
                raise NotUsable("keep", keep)
            # One by one what came ahead of a refusal stays, all at once nothing does.
            groups = [(event,) for event in events] if keep else [events]
            for more in groups:
                self._events = course_behind(self, self._events, more, refuse)
            return len(events)
        finally:
            self._finished = self._started


def house_after(log):
    """A new House after the events of a log, InvalidEvent for the first one that is refused."""
    _, town, fears = log[0]
    house = House(town, fears)
    house._events = course_behind(house, (), log[1:], refuse_impossible)
    return house
