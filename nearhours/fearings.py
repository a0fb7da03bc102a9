"""Towns and fears as objects: when nearness has a bound, and what that hangs on."""

from nearhours.doubts import is_under, parts_of
from nearhours.errors import NotUsable
from nearhours.faults import is_lot
from nearhours.joins import bounds_by_ends
from nearhours.parting import bound_of, is_bounded, play_of
from nearhours.refusals import refuse_fears, refuse_lot, refuse_town
from nearhours.towntexts import lot_words


class Fearing:
    """A town, and the lots that are told as fears; it never changes."""

    def __init__(self, town, *fears):
        refuse_town(town)
        refuse_fears(town, fears)
        self._town = town
        self._fears = fears

    @property
    def town_now(self):
        """The town."""
        return self._town

    @property
    def fears_now(self):
        """The fears."""
        return self._fears

    @property
    def bounded_now(self):
        """Whether nearness has a bound."""
        return is_bounded(self._town, self._fears)

    @property
    def play_now(self):
        """The play, None if two feared lots leave towers that do not hang together."""
        return play_of(self._town, self._fears)

    @property
    def bound_now(self):
        """The bound, None if there is none."""
        return bound_of(self._town, self._fears)

    def __contains__(self, x):
        return is_lot(self._town, x) and is_under(self._fears, x)

    def __iter__(self):
        return iter(self._fears)

    def __len__(self):
        return len(self._fears)

    def __eq__(self, other):
        return isinstance(other, Fearing) and self._town == other._town and self._fears == other._fears

    def __str__(self):
        return str(" / ".join([lot_words(lot, "-") for lot in self._fears]))

    def __add__(self, other):
        refuse_lot(self._town, other)
        lots = sorted(set(self._fears + (other,)))
        return Fearing(self._town, *lots)

    def __sub__(self, other):
        if other not in self._fears:
            raise NotUsable("lot", -1)
        lots = fears_without(self._fears, (other,))
        return Fearing(self._town, *lots)

    def given_up(self):
        """A set of told lots, as few as can be, without which there is a bound, None if there is none."""
        for lots in sorted(parts_of(self._fears), key=len):
            if is_bounded(self._town, fears_without(self._fears, lots)):
                return lots
        return None

    def joining(self):
        """The set of the pairs of towers that no wire joins, with a wire between whom there is a bound."""
        towers = self._town[0]
        bounds = bounds_by_ends(self._town)
        return tuple([
            (one, other) for one in towers for other in towers
            if one < other and (one, other) not in bounds
            and is_bounded(with_wire(self._town, one, other), self._fears)
        ])

    def needed(self):
        """The set of the indexes of the wires without each of which there is no bound."""
        return tuple([
            k for k in range(len(self._town[1]))
            if not is_bounded(without_wire(self._town, k), self._fears)
        ])


def fears_without(fears, lots):
    """The fears without these lots, with that of nobody in their place if none is left."""
    return tuple([lot for lot in fears if lot not in lots]) or ((),)


def with_wire(town, one, other):
    """The town with a wire more, of some bounds: whether nearness has a bound does not hang on them."""
    return town[0], tuple(sorted(town[1] + ((one, other, 0, 0),)))


def without_wire(town, index):
    """The town without the wire with this index."""
    return town[0], town[1][:index] + town[1][index + 1:]
