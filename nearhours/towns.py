"""Towns as objects."""

from nearhours.errors import NotUsable
from nearhours.faults import is_wire
from nearhours.kinds import is_name, is_towers, is_tuple
from nearhours.refusals import refuse_tower
from nearhours.townchecker import lets_town
from nearhours.townparts import neighbors, wire_of
from nearhours.townreadings import town_read
from nearhours.towntexts import town_text


class Town:
    """The town of these towers and wires; it never changes."""

    def __init__(self, towers, *wires):
        if not is_towers(towers):
            raise NotUsable("towers", -1)
        wrong = first_wrong(towers, wires)
        if wrong is not None:
            raise NotUsable("wires", wrong)
        self._towers = towers
        self._wires = tuple(sorted(wires))

    @property
    def town_now(self):
        """The town as a pair."""
        return self._towers, self._wires

    @property
    def towers_now(self):
        """The set of the towers."""
        return self._towers

    @property
    def wires_now(self):
        """The set of the wires."""
        return self._wires

    def __getitem__(self, at):
        return neighbors((self._towers, self._wires), at)

    def __call__(self, first, second):
        return wire_of((self._towers, self._wires), first, second)

    def __contains__(self, x):
        # The kind comes first: a bool would be equal to an integer otherwise.
        return is_wire(self._towers, x) and x in self._wires

    def __len__(self):
        return len(self._towers)

    def __iter__(self):
        return iter(self._towers)

    def __str__(self):
        return str(town_text((self._towers, self._wires)))

    def __eq__(self, other):
        return isinstance(other, Town) and self._towers == other._towers and self._wires == other._wires

    def __add__(self, other):
        wires = (*self._wires, other)
        if first_wrong(self._towers, wires) is not None:
            raise NotUsable("wire", -1)
        return Town(self._towers, *wires)

    def __sub__(self, other):
        if other not in self:
            raise NotUsable("wire", -1)
        wires = [wire for wire in self._wires if wire != other]
        return Town(self._towers, *wires)

    def __or__(self, other):
        if not isinstance(other, Town) or not do_agree(self._wires, other._wires):
            raise NotUsable("other", -1)
        towers = tuple(sorted(set(self._towers + other._towers)))
        wires = sorted(set(self._wires + other._wires))
        return Town(towers, *wires)

    def without(self, tower):
        """The Town without the tower and its wires."""
        refuse_tower((self._towers, self._wires), tower)
        if len(self._towers) == 1:
            raise NotUsable("tower", tower)
        towers = tuple([name for name in self._towers if name != tower])
        wires = [wire for wire in self._wires if tower not in wire[:2]]
        return Town(towers, *wires)

    def called(self, *pairs):
        """The Town in which the tower of each pair is called by its name."""
        names = {tower: tower for tower in self._towers}
        for k, pair in enumerate(pairs):
            if not is_tuple(pair, 2) or pair[0] not in self._towers or not is_name(pair[1]):
                raise NotUsable("pairs", k)
            if pair[0] in [ahead[0] for ahead in pairs[:k]]:
                raise NotUsable("pairs", k)
            names[pair[0]] = pair[1]
        towers = sorted(set(list(names.values())))
        if len(towers) < len(names):
            raise NotUsable("pairs", -1)
        wires = [renamed(wire, names) for wire in self._wires]
        return Town(tuple(towers), *wires)

    @staticmethod
    def of(town):
        """The Town of any value that is a town; InvalidPaper otherwise."""
        lets_town(town)
        towers, wires = town
        return Town(towers, *wires)

    @staticmethod
    def read(text):
        """The Town that the text writes; the errors of town_read otherwise."""
        towers, wires = town_read(text)
        return Town(towers, *wires)


def first_wrong(towers, wires):
    """The index of the first that is no wire, or joins two that one ahead joins; None if none is."""
    misfits = [k for k, wire in enumerate(wires) if not is_wire(towers, wire)]
    sound = wires[:misfits[0]] if misfits else wires
    first_at = {sound[k][:2]: k for k in reversed(range(len(sound)))}
    again = [k for k, wire in enumerate(sound) if first_at[wire[:2]] < k]
    # Those that join two again are all ahead of the first misfit.
    wrong = again + misfits
    return wrong[0] if wrong else None


def do_agree(wires, others):
    """Whether no two towers have one wire here and another one there."""
    known = {wire[:2]: wire for wire in wires}
    return all([known.get(wire[:2], wire) == wire for wire in others])


def renamed(wire, names):
    """The wire with its towers called by these names, ascending again."""
    one, other = sorted([names[wire[0]], names[wire[1]]])
    return one, other, wire[2], wire[3]
