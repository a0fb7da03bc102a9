"""All ways at once."""

from nearhours.courses import first_misfit, least_sums, ties_between
from nearhours.joins import outside_of
from nearhours.kinds import are_integers
from nearhours.refusals import refuse_case, refuse_unexplained
from nearhours.ways import chain_of, way
from nearhours.worlds import some_gains


class Ways:
    """The ways between all towers that are not in the lot; it never changes."""

    def __init__(self, town, run, lot):
        refuse_case(town, run, lot)
        refuse_unexplained(town, run, lot)
        self._town = town
        self._run = run
        self._lot = lot
        self._towers = outside_of(town, lot)
        self._ties = ties_between(town, run, lot)
        self._gains = some_gains(town, run, lot)
        self._rows = rows_between(self._ties, self._towers)

    @property
    def outside_now(self):
        """The set of the towers that are not in the lot."""
        return self._towers

    @property
    def gains_now(self):
        """Some gains for the lot that fit."""
        return self._gains

    @property
    def parts_now(self):
        """The set of the greatest sets of these towers that hang together by letters."""
        ends = [row[:2] for row in self._rows]
        parts = [
            tuple([other for other in self._towers if other == one or (one, other) in ends])
            for one in self._towers
        ]
        return tuple(sorted(set(parts)))

    def way_between(self, one, other):
        """The way from one to other."""
        return way(self._town, self._run, self._lot, one, other)

    def chain_between(self, one, other):
        """A chain from one to other whose ties add to the way."""
        return chain_of(self._town, self._run, self._lot, one, other)

    def __len__(self):
        return len(self._rows)

    def __iter__(self):
        return iter(self._rows)

    def __contains__(self, x):
        if not are_integers(x, len(self._towers)):
            return False
        return first_misfit(self._ties, self._towers, x) is None

    def __eq__(self, other):
        return isinstance(other, Ways) and self._towers == other._towers and self._rows == other._rows


def rows_between(ties, towers):
    """The triples (one, other, way) of the towers that have a way, ascending."""
    rows = []
    for one in towers:
        sums, _, _ = least_sums(ties, (one,), len(towers))
        rows.extend([(one, other, sums[other]) for other in towers if other != one and other in sums])
    return tuple(rows)
