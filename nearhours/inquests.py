"""Who can have lied, as objects."""

from nearhours.doubts import suspects_of
from nearhours.errors import NotUsable
from nearhours.liepapers import lie_paper
from nearhours.refusals import refuse_asked, refuse_index, refuse_letter, refuse_lot, refuse_tower
from nearhours.suspects import could_lie, kernel_suspects, surely_lied


class Inquest:
    """Who can have lied by these fears and this run; it never changes."""

    def __init__(self, town, fears, run):
        refuse_asked(town, fears, run)
        self._town = town
        self._fears = fears
        self._run = run
        self._lots = suspects_of(town, fears, run)

    @property
    def town_now(self):
        """The town."""
        return self._town

    @property
    def fears_now(self):
        """The fears."""
        return self._fears

    @property
    def run_now(self):
        """The run."""
        return self._run

    @property
    def suspects_now(self):
        """The set of the suspects."""
        return self._lots

    @property
    def kernel_now(self):
        """The set of the suspects that have no other suspect as a part."""
        return kernel_suspects(self._town, self._fears, self._run)

    @property
    def lied_now(self):
        """The set of the towers that surely lied."""
        return surely_lied(self._town, self._fears, self._run)

    @property
    def could_now(self):
        """The set of the towers that can have lied."""
        return could_lie(self._town, self._fears, self._run)

    @property
    def verdicts_now(self):
        """The pairs of a tower and the word on it, for all towers in order."""
        return tuple([(tower, verdict(self._lots, tower)) for tower in self._town[0]])

    def __getitem__(self, at):
        refuse_tower(self._town, at)
        return verdict(self._lots, at)

    def __contains__(self, x):
        return x in self._lots

    def __len__(self):
        return len(self._lots)

    def __iter__(self):
        return iter(self._lots)

    def __eq__(self, other):
        if not isinstance(other, Inquest):
            return False
        return self._town == other._town and self._fears == other._fears and self._run == other._run

    def __add__(self, other):
        refuse_letter(self._town, other)
        return Inquest(self._town, self._fears, (*self._run, other))

    def __sub__(self, other):
        refuse_index(len(self._run), other)
        return Inquest(self._town, self._fears, without_letter(self._run, other))

    def __or__(self, other):
        refuse_lot(self._town, other)
        return Inquest(self._town, tuple(sorted(set(self._fears + (other,)))), self._run)

    def __xor__(self, other):
        if other not in self._fears or len(self._fears) == 1:
            raise NotUsable("lot", -1)
        return Inquest(self._town, tuple([lot for lot in self._fears if lot != other]), self._run)

    def telling(self):
        """The set of the indexes of the letters without each of which there are more suspects."""
        return tuple([
            k for k in range(len(self._run))
            if len(suspects_of(self._town, self._fears, without_letter(self._run, k))) > len(self._lots)
        ])

    def paper(self, tower):
        """A lie paper of the tower."""
        return lie_paper(self._town, self._fears, self._run, tower)


def verdict(lots, tower):
    """The word on a tower by the suspects: lied, so for each if there is none, perhaps, or honest."""
    if all([tower in lot for lot in lots]):
        return "lied"
    return "perhaps" if any([tower in lot for lot in lots]) else "honest"


def without_letter(run, index):
    """The run without the letter with this index."""
    return run[:index] + run[index + 1:]
