"""Settings as objects."""

from nearhours.balances import least_terms
from nearhours.errors import NotUsable
from nearhours.kinds import is_integer, is_tuple
from nearhours.reaching import reach, reaches
from nearhours.refusals import refuse_letter, refuse_tower
from nearhours.settings import best_setting, nearest, nearness_of


class Setter:
    """The setting of clocks by these fears and this run; it never changes."""

    def __init__(self, town, fears, run):
        self._rows = reaches(town, fears, run)
        self._nearest = nearest(town, fears, run)
        self._setting = best_setting(town, fears, run)
        self._town = town
        self._fears = fears
        self._run = run

    @property
    def town_now(self):
        """The town."""
        return self._town

    @property
    def fears_now(self):
        """The fears."""
        return self._fears

    @property
    def run_now(self):
        """The run."""
        return self._run

    @property
    def nearest_now(self):
        """The least nearness of a setting, None if none has one."""
        return self._nearest

    @property
    def setting_now(self):
        """A setting of this nearness, always the same one."""
        return self._setting

    def reach_between(self, one, other):
        """The reach from one to other."""
        return reach(self._town, self._fears, self._run, one, other)

    def nearness_by(self, setting):
        """The nearness of the setting."""
        return nearness_of(self._town, self._fears, self._run, setting)

    def hour_set(self, tower, hour):
        """The hour less what the setting takes from it, a fraction; None without a setting."""
        refuse_tower(self._town, tower)
        if not is_integer(hour):
            raise NotUsable("hour", -1)
        if self._setting is None:
            return None
        top, bottom = dict(zip(self._town[0], self._setting))[tower]
        return least_terms(hour * bottom - top, bottom)

    def with_letter(self, letter):
        """The Setter of the run with this letter more, as the last one."""
        refuse_letter(self._town, letter)
        return Setter(self._town, self._fears, (*self._run, letter))

    def __contains__(self, x):
        # The kind comes first: a bool would be equal to an integer otherwise.
        if not is_tuple(x, 3) or isinstance(x[2], bool):
            return False
        return x in self._rows

    def __len__(self):
        return len(self._rows)

    def __iter__(self):
        return iter(self._rows)

    def __eq__(self, other):
        if not isinstance(other, Setter):
            return False
        return self._town == other._town and self._fears == other._fears and self._run == other._run
