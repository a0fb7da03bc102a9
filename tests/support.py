"""What the tests share: values of the document, and how refusals are looked at."""

import fractions
import itertools
import random
import unittest

TWO = (("a", "b"), (("a", "b", 0, 2),))
RING = (("a", "b", "c"), (("a", "b", 0, 2), ("a", "c", 0, 2), ("b", "c", 0, 2)))
WAY = (("a", "b", "c"), (("a", "b", 1, 1), ("b", "c", -1, 3)))
ALONE = (("a",), ())
EACH = (("a",), ("b",), ("c",))
ODD = (("a", "b", 0, 1), ("b", "c", 0, 1), ("c", "a", 0, -5))
SIXTY = 10 ** 59
LONG = 10 ** 60

# Values of each kind that the document calls any value, none of them a town, run or fears.
ODDITIES = (
    None, True, False, 0, 1, -1, LONG, "", "a", "tower a", "\n", [], [()], ["a"], [["a", "b"], []],
    ("a",), (1, 2), (True, False), ((("a", "b"), ()),), (None, ()), ((), None), ("a", "b", "c"),
)


class Case(unittest.TestCase):
    """A test case that looks at refusals, class and fields."""

    def refusal(self, call, *told, **named):
        """What the call raises: the name of its class and its fields."""
        try:
            result = call(*told, **named)
        except ValueError as error:
            return type(error).__name__, vars(error)
        self.fail(f"not refused: {call} {told} {named} returned {result!r}")

    def refuses(self, kind, fields, call, *told, **named):
        """The call raises such an error with just these fields, True not being 1."""
        name, found = self.refusal(call, *told, **named)
        self.assertEqual((name, repr(found)), (kind, repr(fields)), (told, named))

    def not_usable(self, word, at, call, *told, **named):
        self.refuses("NotUsable", {"word": word, "at": at}, call, *told, **named)

    def invalid(self, word, at, call, *told, **named):
        self.refuses("InvalidPaper", {"word": word, "at": at}, call, *told, **named)

    def same(self, found, wanted):
        """Equal, and of equal kinds all the way down: True is not 1, a list no tuple."""
        self.assertEqual(repr(found), repr(wanted))


def lots_of(towers):
    """All lots of the towers."""
    return [lot for many in range(len(towers) + 1) for lot in itertools.combinations(towers, many)]


def some_town(chance, many):
    """A small town of so many towers, by chance."""
    towers = tuple("abcde"[:many])
    wires = []
    for one, other in itertools.combinations(towers, 2):
        if chance.random() < 0.75:
            low = chance.randint(-1, 1)
            wires.append((one, other, low, low + chance.randint(0, 2)))
    return towers, tuple(wires)


def some_run(chance, town, many, far=2):
    """A run of so many letters of the town, by chance; () if no wire leads anywhere."""
    letters = []
    for _ in range(many if town[1] else 0):
        ends = list(chance.choice(town[1])[:2])
        chance.shuffle(ends)
        letters.append((*ends, chance.randint(-far, far), chance.randint(-far, far)))
    return tuple(letters)


def some_cases(seed, count, towers=(1, 2, 3), letters=4):
    """So many pairs of a town and a run of it, always the same ones for a seed."""
    chance = random.Random(seed)
    cases = []
    for _ in range(count):
        town = some_town(chance, chance.choice(towers))
        cases.append((town, some_run(chance, town, chance.randint(0, letters))))
    return cases


def plain_ties(town, run, lot):
    """The ties as the document defines them, made apart from the package: (one, other, most, k)."""
    ties = []
    for k, (one, other, sent, heard) in enumerate(run):
        if one in lot or other in lot:
            continue
        low, high = [wire[2:] for wire in town[1] if set(wire[:2]) == {one, other}][0]
        ties.append((one, other, heard - sent - low, k))
        ties.append((other, one, high - (heard - sent), k))
    return ties


def plainly_fit(town, run, lot, gains):
    """Whether the gains fit, by the words of [6]."""
    outside = [tower for tower in town[0] if tower not in lot]
    gain = dict(zip(outside, gains))
    for one, other, sent, heard in run:
        if one in gain and other in gain:
            low, high = [wire[2:] for wire in town[1] if set(wire[:2]) == {one, other}][0]
            if not low <= heard - sent + gain[one] - gain[other] <= high:
                return False
    return True


def all_chains(ties, one):
    """All chains from one that pass no tower twice, but may end where they begin, with their sums.

    Each other chain is one of these with rings put in, and each ring falls apart into such rings.
    """
    found = []

    def go_on(steps, tower, passed, total):
        for start, other, most, k in ties:
            if start != tower:
                continue
            told = steps + ((k, other),)
            if other == one:
                found.append((told, other, total + most))
            elif other not in passed:
                found.append((told, other, total + most))
                go_on(told, other, passed | {other}, total + most)

    go_on((), one, {one}, 0)
    return found


def all_rings(town, run):
    """All rings, without regard to lots, that pass no tower twice, as pairs (towers, sum)."""
    ties = plain_ties(town, run, ())
    rings = []
    for tower in town[0]:
        for steps, end, total in all_chains(ties, tower):
            if end == tower:
                rings.append(({other for _, other in steps}, total))
    return rings


def plain_feared(fears):
    """All feared lots by the words of [8], ascending."""
    return sorted({lot for told in fears for lot in lots_of(told)})


def plain_suspects(town, fears, run):
    """All suspects, by a tower of each clashing ring ((O1)), ascending."""
    clashing = [towers for towers, total in all_rings(town, run) if total < 0]
    return tuple(lot for lot in plain_feared(fears) if all(towers & set(lot) for towers in clashing))


def plain_ways(town, run, lot):
    """The least sums of all chains without the lot, by pairs of towers; the lot is to explain the run."""
    ties = plain_ties(town, run, lot)
    sums = {}
    for one in town[0]:
        for _, other, total in all_chains(ties, one):
            if other != one:
                sums[one, other] = min(total, sums.get((one, other), total))
    return sums


def plain_reaches(town, fears, run):
    """All told reaches, by going through all suspects and all chains."""
    found = {}
    for lot in plain_suspects(town, fears, run):
        left = [tower for tower in town[0] if tower not in lot]
        sums = plain_ways(town, run, lot)
        for pair in itertools.permutations(left, 2):
            found.setdefault(pair, []).append(sums.get(pair))
    return tuple((*pair, None if None in found[pair] else max(found[pair])) for pair in sorted(found))


def all_circles(towers):
    """All circles of two or more of the towers, each once for each tower at which it can begin."""
    return [circle for many in range(2, len(towers) + 1) for circle in itertools.permutations(towers, many)]


def plain_means(towers, rows):
    """The mean of each circle all of whose reaches are told, as Python's fractions."""
    told = {row[:2]: row[2] for row in rows}
    means = {}
    for circle in all_circles(towers):
        steps = list(zip(circle, circle[1:] + circle[:1]))
        if all(step in told for step in steps):
            means[circle] = fractions.Fraction(sum(told[step] for step in steps), len(steps))
    return means


def as_pair(number):
    """One of Python's fractions as the document has them."""
    return number.numerator, number.denominator


def joined_town(chance, many, share=0.9):
    """A small town of so many towers, most two of which are joined."""
    towers = tuple("abcde"[:many])
    wires = []
    for one, other in itertools.combinations(towers, 2):
        if chance.random() < share:
            low = chance.randint(-1, 1)
            wires.append((one, other, low, low + chance.randint(0, 3)))
    return towers, tuple(wires)


def heard_run(chance, town, liars, many):
    """A run of so many letters, sound but for those from or to the liars."""
    gain = {tower: chance.randint(-3, 3) for tower in town[0]}
    letters = []
    for _ in range(many if town[1] else 0):
        one, other, low, high = chance.choice(town[1])
        if chance.random() < 0.5:
            one, other = other, one
        sent = chance.randint(-3, 3)
        late = chance.randint(low, high)
        if one in liars or other in liars:
            late += chance.randint(-4, 4)
        letters.append((one, other, sent, sent - gain[one] + gain[other] + late))
    return tuple(letters)


def some_fears_of(chance, towers):
    """One to four lots of the towers, by chance, small ones more often."""
    lots = sorted(lots_of(towers), key=len)
    told = {chance.choice(lots[:chance.randint(1, len(lots))]) for _ in range(chance.randint(1, 4))}
    return tuple(sorted(told))


def some_inquests(seed, count, towers=(1, 2, 3, 4), letters=6):
    """So many triples of a town, fears and a run, explained or not, always the same ones for a seed."""
    chance = random.Random(seed)
    cases = []
    for _ in range(count):
        town = joined_town(chance, chance.choice(towers))
        fears = some_fears_of(chance, town[0])
        liars = chance.choice(fears if chance.random() < 0.6 else lots_of(town[0]))
        many = chance.randint(0, letters)
        if chance.random() < 0.8:
            cases.append((town, fears, heard_run(chance, town, liars, many)))
        else:
            cases.append((town, fears, some_run(chance, town, many)))
    return cases


def explained_inquests(seed, count, towers=(1, 2, 3, 4), letters=8):
    """Those of such triples in which some feared lot explains the run."""
    return [case for case in some_inquests(seed, count, towers, letters) if plain_suspects(*case)]


def parted_inquests(seed, count, towers=(3, 4)):
    """Such triples in which no lot is sure: all towers joined, each feared, a full run that one spoiled."""
    chance = random.Random(seed)
    cases = []
    while len(cases) < count:
        town = joined_town(chance, chance.choice(towers), 1)
        fears = tuple((tower,) for tower in town[0])
        run = []
        for one, other, low, high in town[1]:
            late = chance.randint(low, high) + (chance.randint(0, 12) if other == town[0][-1] else 0)
            run.append((one, other, 0, late) if chance.random() < 0.8 else (other, one, 0, high + low - late))
        if plain_suspects(town, fears, tuple(run)):
            cases.append((town, fears, tuple(run)))
    return cases
