"""For which towns and fears nearness has a bound, whatever the letters are."""

from nearhours.courses import least_sums
from nearhours.doubts import feared_of, has_any, lot_less
from nearhours.refusals import refuse_fears, refuse_town


def three_lots(town, fears):
    """A set of three nonempty feared lots that part the towers, None if there are none."""
    refuse_town(town)
    refuse_fears(town, fears)
    feared = feared_of(fears)
    for one in feared:
        for other in feared:
            rest = lot_less(town[0], one + other)
            if () < one < other < rest and rest in feared and not has_any(one, other):
                return one, other, rest
    return None


def two_lots(town, fears):
    """Two feared lots, and a part that no wire joins with what further is in neither; None without."""
    refuse_town(town)
    refuse_fears(town, fears)
    feared = feared_of(fears)
    for one in feared:
        for other in feared:
            rest = lot_less(town[0], one + other)
            part = first_part(town, rest)
            if part != rest:
                return one, other, part
    return None


def is_bounded(town, fears):
    """Whether there are neither three such lots nor two."""
    return three_lots(town, fears) is None and two_lots(town, fears) is None


def play_of(town, fears):
    """The greatest of the least sums of widths between towers in neither of two feared lots.

    None if two such lots leave towers that do not hang together.
    """
    if two_lots(town, fears) is not None:
        return None
    feared = feared_of(fears)
    rests = sorted({lot_less(town[0], one + other) for one in feared for other in feared})
    return max([farthest(town, rest) for rest in rests])


def bound_of(town, fears):
    """Twice the play, None if nearness has no bound."""
    return 2 * play_of(town, fears) if is_bounded(town, fears) else None


def width_ties(town, towers):
    """The widths of the wires between the towers, as ties in both directions."""
    ties = []
    for index, (one, other, low, high) in enumerate(town[1]):
        if one in towers and other in towers:
            ties.append((one, other, high - low, index))
            ties.append((other, one, high - low, index))
    return ties


def first_part(town, towers):
    """The set of those of the towers that hang together with the first of them."""
    sums, _, _ = least_sums(width_ties(town, towers), towers[:1], len(towers))
    return tuple([tower for tower in towers if tower in sums])


def farthest(town, towers):
    """The greatest of the least sums of widths along wires between two of the towers, 0 without."""
    ties = width_ties(town, towers)
    sums = [least_sums(ties, (tower,), len(towers))[0] for tower in towers]
    return max([most for told in sums for most in list(told.values())], default=0)
