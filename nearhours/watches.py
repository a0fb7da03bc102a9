"""Clocks that gain or lose as they run, as objects."""

from nearhours.drifting import nearest_at, reach_at, setting_at, suspects_at
from nearhours.driftchecker import lets_apart
from nearhours.driftpapers import apart_paper
from nearhours.faults import is_letter
from nearhours.refusals import refuse_drift, refuse_index, refuse_letter
from nearhours.waiting import last_hour


class Watch:
    """The letters of a town whose clocks gain or lose at rates; it never changes."""

    def __init__(self, town, rates, fears, run):
        refuse_drift(town, rates, fears, run)
        self._town = town
        self._rates = rates
        self._fears = fears
        self._run = run

    @property
    def town_now(self):
        """The town."""
        return self._town

    @property
    def rates_now(self):
        """The rates."""
        return self._rates

    @property
    def fears_now(self):
        """The fears."""
        return self._fears

    @property
    def run_now(self):
        """The run."""
        return self._run

    @property
    def lots_now(self):
        """The set of the suspects at rates."""
        return suspects_at(self._town, self._rates, self._fears, self._run)

    def is_explained(self):
        """Whether some feared lot explains the run at rates."""
        return len(self.lots_now) > 0

    def __call__(self, hours):
        return nearest_at(self._town, self._rates, self._fears, self._run, hours)

    def set_for(self, hours):
        """A setting of the least nearness at hours."""
        return setting_at(self._town, self._rates, self._fears, self._run, hours)

    def reach_for(self, hours, tower, other):
        """The reach at hours from the tower to the other one."""
        return reach_at(self._town, self._rates, self._fears, self._run, hours, tower, other)

    def last_for(self, first, most):
        """The greatest of so many hours from first on at which the least nearness is at most most."""
        return last_hour(self._town, self._rates, self._fears, self._run, first, most)

    def paper_for(self, hours):
        """A paper that no setting at hours is nearer."""
        return apart_paper(self._town, self._rates, self._fears, self._run, hours)

    def judged(self, hours, thing):
        """The value of such a paper, if it is right."""
        return lets_apart(self._town, self._rates, self._fears, self._run, hours, thing)

    def __add__(self, other):
        refuse_letter(self._town, other)
        return Watch(self._town, self._rates, self._fears, (*self._run, other))

    def __getitem__(self, at):
        refuse_index(len(self._run), at)
        return self._run[at]

    def __contains__(self, x):
        # The kind comes first: a bool would be equal to an integer otherwise.
        return is_letter(self._town, x) and x in self._run

    def __len__(self):
        return len(self._run)

    def __iter__(self):
        return iter(self._run)

    def __eq__(self, other):
        if not isinstance(other, Watch):
            return False
        if self._town != other._town or self._rates != other._rates:
            return False
        return self._fears == other._fears and self._run == other._run
