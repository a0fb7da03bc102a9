"""What the tests share: values of the document, and how refusals are looked at."""

import itertools
import random
import unittest

TWO = (("a", "b"), (("a", "b", 0, 2),))
RING = (("a", "b", "c"), (("a", "b", 0, 2), ("a", "c", 0, 2), ("b", "c", 0, 2)))
WAY = (("a", "b", "c"), (("a", "b", 1, 1), ("b", "c", -1, 3)))
ALONE = (("a",), ())
EACH = (("a",), ("b",), ("c",))
ODD = (("a", "b", 0, 1), ("b", "c", 0, 1), ("c", "a", 0, -5))
SIXTY = 10 ** 59
LONG = 10 ** 60

# Values of each kind that the document calls any value, none of them a town, run or fears.
ODDITIES = (
    None, True, False, 0, 1, -1, LONG, "", "a", "tower a", "\n", [], [()], ["a"], [["a", "b"], []],
    ("a",), (1, 2), (True, False), ((("a", "b"), ()),), (None, ()), ((), None), ("a", "b", "c"),
)


class Case(unittest.TestCase):
    """A test case that looks at refusals, class and fields."""

    def refusal(self, call, *told, **named):
        """What the call raises: the name of its class and its fields."""
        try:
            result = call(*told, **named)
        except ValueError as error:
            return type(error).__name__, vars(error)
        self.fail(f"not refused: {call} {told} {named} returned {result!r}")

    def refuses(self, kind, fields, call, *told, **named):
        """The call raises such an error with just these fields, True not being 1."""
        name, found = self.refusal(call, *told, **named)
        self.assertEqual((name, repr(found)), (kind, repr(fields)), (told, named))

    def not_usable(self, word, at, call, *told, **named):
        self.refuses("NotUsable", {"word": word, "at": at}, call, *told, **named)

    def invalid(self, word, at, call, *told, **named):
        self.refuses("InvalidPaper", {"word": word, "at": at}, call, *told, **named)

    def same(self, found, wanted):
        """Equal, and of equal kinds all the way down: True is not 1, a list no tuple."""
        self.assertEqual(repr(found), repr(wanted))


def lots_of(towers):
    """All lots of the towers."""
    return [lot for many in range(len(towers) + 1) for lot in itertools.combinations(towers, many)]


def some_town(chance, many):
    """A small town of so many towers, by chance."""
    towers = tuple("abcde"[:many])
    wires = []
    for one, other in itertools.combinations(towers, 2):
        if chance.random() < 0.75:
            low = chance.randint(-1, 1)
            wires.append((one, other, low, low + chance.randint(0, 2)))
    return towers, tuple(wires)


def some_run(chance, town, many, far=2):
    """A run of so many letters of the town, by chance; () if no wire leads anywhere."""
    letters = []
    for _ in range(many if town[1] else 0):
        ends = list(chance.choice(town[1])[:2])
        chance.shuffle(ends)
        letters.append((*ends, chance.randint(-far, far), chance.randint(-far, far)))
    return tuple(letters)


def some_cases(seed, count, towers=(1, 2, 3), letters=4):
    """So many pairs of a town and a run of it, always the same ones for a seed."""
    chance = random.Random(seed)
    cases = []
    for _ in range(count):
        town = some_town(chance, chance.choice(towers))
        cases.append((town, some_run(chance, town, chance.randint(0, letters))))
    return cases


def plain_ties(town, run, lot):
    """The ties as the document defines them, made apart from the package: (one, other, most, k)."""
    ties = []
    for k, (one, other, sent, heard) in enumerate(run):
        if one in lot or other in lot:
            continue
        low, high = [wire[2:] for wire in town[1] if set(wire[:2]) == {one, other}][0]
        ties.append((one, other, heard - sent - low, k))
        ties.append((other, one, high - (heard - sent), k))
    return ties


def plainly_fit(town, run, lot, gains):
    """Whether the gains fit, by the words of [6]."""
    outside = [tower for tower in town[0] if tower not in lot]
    gain = dict(zip(outside, gains))
    for one, other, sent, heard in run:
        if one in gain and other in gain:
            low, high = [wire[2:] for wire in town[1] if set(wire[:2]) == {one, other}][0]
            if not low <= heard - sent + gain[one] - gain[other] <= high:
                return False
    return True


def all_chains(ties, one):
    """All chains from one that pass no tower twice, but may end where they begin, with their sums.

    Each other chain is one of these with rings put in, and each ring falls apart into such rings.
    """
    found = []

    def go_on(steps, tower, passed, total):
        for start, other, most, k in ties:
            if start != tower:
                continue
            told = steps + ((k, other),)
            if other == one:
                found.append((told, other, total + most))
            elif other not in passed:
                found.append((told, other, total + most))
                go_on(told, other, passed | {other}, total + most)

    go_on((), one, {one}, 0)
    return found


def all_rings(town, run):
    """All rings, without regard to lots, that pass no tower twice, as pairs (towers, sum)."""
    ties = plain_ties(town, run, ())
    rings = []
    for tower in town[0]:
        for steps, end, total in all_chains(ties, tower):
            if end == tower:
                rings.append(({other for _, other in steps}, total))
    return rings
