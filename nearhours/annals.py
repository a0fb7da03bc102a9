"""Events and what is sure of their order, as objects."""

from nearhours.errors import NotUsable
from nearhours.events import could_be_ahead
from nearhours.faults import is_event
from nearhours.joins import events_of
from nearhours.kinds import is_index
from nearhours.refusals import refuse_asked, refuse_event, refuse_index, refuse_letter
from nearhours.surepairs import circle_of, sure_pairs


class Annals:
    """The events of a town, and which are surely ahead of which; it never changes."""

    def __init__(self, town, fears, run, events):
        self._pairs = sure_pairs(town, fears, run, events)
        self._town = town
        self._fears = fears
        self._run = run
        self._events = events

    @property
    def town_now(self):
        """The town."""
        return self._town

    @property
    def fears_now(self):
        """The fears."""
        return self._fears

    @property
    def run_now(self):
        """The run."""
        return self._run

    @property
    def events_now(self):
        """The events."""
        return self._events

    @property
    def pairs_now(self):
        """The set of the pairs of indexes of events, the first surely ahead of the second."""
        return self._pairs

    @property
    def circle_now(self):
        """A circle of events each surely ahead of the next one, None if there is none."""
        return circle_of(self._town, self._fears, self._run, self._events)

    def __getitem__(self, at):
        refuse_index(len(self._events), at)
        return self._events[at]

    def __contains__(self, x):
        # The kind comes first: a bool would be equal to an integer otherwise.
        return is_event(self._town, x) and x in self._events

    def __len__(self):
        return len(self._events)

    def __iter__(self):
        return iter(self._events)

    def __eq__(self, other):
        if not isinstance(other, Annals):
            return False
        if self._town != other._town or self._fears != other._fears:
            return False
        return self._run == other._run and self._events == other._events

    def __call__(self, early, late):
        if not is_index(early, len(self._events)):
            raise NotUsable("early", early)
        if not is_index(late, len(self._events)):
            raise NotUsable("late", late)
        if (early, late) in self._pairs:
            return "surely"
        ends = (self._events[early], self._events[late])
        return "perhaps" if could_be_ahead(self._town, self._fears, self._run, *ends) else "never"

    def sure_before(self, index):
        """The set of the indexes of the events that are surely ahead of this one."""
        refuse_index(len(self._events), index)
        return tuple([j for j, k in self._pairs if k == index])

    def sure_after(self, index):
        """The set of the indexes of the events of which this one is surely ahead."""
        refuse_index(len(self._events), index)
        return tuple([k for j, k in self._pairs if j == index])

    def with_event(self, event):
        """The Annals with this event as the last one."""
        refuse_event(self._town, "event", event)
        return Annals(self._town, self._fears, self._run, (*self._events, event))

    def with_letter(self, letter):
        """The Annals of the run with this letter as the last one."""
        refuse_letter(self._town, letter)
        return Annals(self._town, self._fears, (*self._run, letter), self._events)

    @classmethod
    def of(cls, town, fears, run):
        """The Annals of the events of the letters: when each was sent, and when it was heard."""
        refuse_asked(town, fears, run)
        return cls(town, fears, run, events_of(run))
