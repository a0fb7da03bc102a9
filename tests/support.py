"""What the tests share: values of the document, and how refusals are looked at."""

import fractions
import functools
import itertools
import random
import unittest

TWO = (("a", "b"), (("a", "b", 0, 2),))
RING = (("a", "b", "c"), (("a", "b", 0, 2), ("a", "c", 0, 2), ("b", "c", 0, 2)))
WAY = (("a", "b", "c"), (("a", "b", 1, 1), ("b", "c", -1, 3)))
ALONE = (("a",), ())
EACH = (("a",), ("b",), ("c",))
ODD = (("a", "b", 0, 1), ("b", "c", 0, 1), ("c", "a", 0, -5))
SIXTY = 10 ** 59
LONG = 10 ** 60

# Values of each kind that the document calls any value, none of them a town, run or fears.
ODDITIES = (
    None, True, False, 0, 1, -1, LONG, "", "a", "tower a", "\n", [], [()], ["a"], [["a", "b"], []],
    ("a",), (1, 2), (True, False), ((("a", "b"), ()),), (None, ()), ((), None), ("a", "b", "c"),
)


class Case(unittest.TestCase):
    """A test case that looks at refusals, class and fields."""

    def refusal(self, call, *told, **named):
        """What the call raises: the name of its class and its fields."""
        try:
            result = call(*told, **named)
        except ValueError as error:
            return type(error).__name__, vars(error)
        self.fail(f"not refused: {call} {told} {named} returned {result!r}")

    def refuses(self, kind, fields, call, *told, **named):
        """The call raises such an error with just these fields, True not being 1."""
        name, found = self.refusal(call, *told, **named)
        self.assertEqual((name, repr(found)), (kind, repr(fields)), (told, named))

    def not_usable(self, word, at, call, *told, **named):
        self.refuses("NotUsable", {"word": word, "at": at}, call, *told, **named)

    def invalid(self, word, at, call, *told, **named):
        self.refuses("InvalidPaper", {"word": word, "at": at}, call, *told, **named)

    def same(self, found, wanted):
        """Equal, and of equal kinds all the way down: True is not 1, a list no tuple."""
        self.assertEqual(repr(found), repr(wanted))


def lots_of(towers):
    """All lots of the towers."""
    return [lot for many in range(len(towers) + 1) for lot in itertools.combinations(towers, many)]


def some_town(chance, many):
    """A small town of so many towers, by chance."""
    towers = tuple("abcde"[:many])
    wires = []
    for one, other in itertools.combinations(towers, 2):
        if chance.random() < 0.75:
            low = chance.randint(-1, 1)
            wires.append((one, other, low, low + chance.randint(0, 2)))
    return towers, tuple(wires)


def some_run(chance, town, many, far=2):
    """A run of so many letters of the town, by chance; () if no wire leads anywhere."""
    letters = []
    for _ in range(many if town[1] else 0):
        ends = list(chance.choice(town[1])[:2])
        chance.shuffle(ends)
        letters.append((*ends, chance.randint(-far, far), chance.randint(-far, far)))
    return tuple(letters)


def some_cases(seed, count, towers=(1, 2, 3), letters=4):
    """So many pairs of a town and a run of it, always the same ones for a seed."""
    chance = random.Random(seed)
    cases = []
    for _ in range(count):
        town = some_town(chance, chance.choice(towers))
        cases.append((town, some_run(chance, town, chance.randint(0, letters))))
    return cases


def plain_ties(town, run, lot):
    """The ties as the document defines them, made apart from the package: (one, other, most, k)."""
    ties = []
    for k, (one, other, sent, heard) in enumerate(run):
        if one in lot or other in lot:
            continue
        low, high = [wire[2:] for wire in town[1] if set(wire[:2]) == {one, other}][0]
        ties.append((one, other, heard - sent - low, k))
        ties.append((other, one, high - (heard - sent), k))
    return ties


def plainly_fit(town, run, lot, gains):
    """Whether the gains fit, by the words of [6]."""
    outside = [tower for tower in town[0] if tower not in lot]
    gain = dict(zip(outside, gains))
    for one, other, sent, heard in run:
        if one in gain and other in gain:
            low, high = [wire[2:] for wire in town[1] if set(wire[:2]) == {one, other}][0]
            if not low <= heard - sent + gain[one] - gain[other] <= high:
                return False
    return True


def all_chains(ties, one):
    """All chains from one that pass no tower twice, but may end where they begin, with their sums.

    Each other chain is one of these with rings put in, and each ring falls apart into such rings.
    """
    found = []

    def go_on(steps, tower, passed, total):
        for start, other, most, k in ties:
            if start != tower:
                continue
            told = steps + ((k, other),)
            if other == one:
                found.append((told, other, total + most))
            elif other not in passed:
                found.append((told, other, total + most))
                go_on(told, other, passed | {other}, total + most)

    go_on((), one, {one}, 0)
    return found


def all_rings(town, run):
    """All rings, without regard to lots, that pass no tower twice, as pairs (towers, sum)."""
    ties = plain_ties(town, run, ())
    rings = []
    for tower in town[0]:
        for steps, end, total in all_chains(ties, tower):
            if end == tower:
                rings.append(({other for _, other in steps}, total))
    return rings


def plain_feared(fears):
    """All feared lots by the words of [8], ascending."""
    return sorted({lot for told in fears for lot in lots_of(told)})


def plain_suspects(town, fears, run):
    """All suspects, by a tower of each clashing ring ((O1)), ascending."""
    clashing = [towers for towers, total in all_rings(town, run) if total < 0]
    return tuple(lot for lot in plain_feared(fears) if all(towers & set(lot) for towers in clashing))


def plain_ways(town, run, lot):
    """The least sums of all chains without the lot, by pairs of towers; the lot is to explain the run."""
    ties = plain_ties(town, run, lot)
    sums = {}
    for one in town[0]:
        for _, other, total in all_chains(ties, one):
            if other != one:
                sums[one, other] = min(total, sums.get((one, other), total))
    return sums


def plain_reaches(town, fears, run):
    """All told reaches, by going through all suspects and all chains."""
    found = {}
    for lot in plain_suspects(town, fears, run):
        left = [tower for tower in town[0] if tower not in lot]
        sums = plain_ways(town, run, lot)
        for pair in itertools.permutations(left, 2):
            found.setdefault(pair, []).append(sums.get(pair))
    return tuple((*pair, None if None in found[pair] else max(found[pair])) for pair in sorted(found))


def all_circles(towers):
    """All circles of two or more of the towers, each once for each tower at which it can begin."""
    return [circle for many in range(2, len(towers) + 1) for circle in itertools.permutations(towers, many)]


def plain_means(towers, rows):
    """The mean of each circle all of whose reaches are told, as Python's fractions."""
    told = {row[:2]: row[2] for row in rows}
    means = {}
    for circle in all_circles(towers):
        steps = list(zip(circle, circle[1:] + circle[:1]))
        if all(step in told for step in steps):
            means[circle] = fractions.Fraction(sum(told[step] for step in steps), len(steps))
    return means


def as_pair(number):
    """One of Python's fractions as the document has them."""
    return number.numerator, number.denominator


def joined_town(chance, many, share=0.9):
    """A small town of so many towers, most two of which are joined."""
    towers = tuple("abcde"[:many])
    wires = []
    for one, other in itertools.combinations(towers, 2):
        if chance.random() < share:
            low = chance.randint(-1, 1)
            wires.append((one, other, low, low + chance.randint(0, 3)))
    return towers, tuple(wires)


def heard_run(chance, town, liars, many):
    """A run of so many letters, sound but for those from or to the liars."""
    gain = {tower: chance.randint(-3, 3) for tower in town[0]}
    letters = []
    for _ in range(many if town[1] else 0):
        one, other, low, high = chance.choice(town[1])
        if chance.random() < 0.5:
            one, other = other, one
        sent = chance.randint(-3, 3)
        late = chance.randint(low, high)
        if one in liars or other in liars:
            late += chance.randint(-4, 4)
        letters.append((one, other, sent, sent - gain[one] + gain[other] + late))
    return tuple(letters)


def some_fears_of(chance, towers):
    """One to four lots of the towers, by chance, small ones more often."""
    lots = sorted(lots_of(towers), key=len)
    told = {chance.choice(lots[:chance.randint(1, len(lots))]) for _ in range(chance.randint(1, 4))}
    return tuple(sorted(told))


def some_inquests(seed, count, towers=(1, 2, 3, 4), letters=6):
    """So many triples of a town, fears and a run, explained or not, always the same ones for a seed."""
    chance = random.Random(seed)
    cases = []
    for _ in range(count):
        town = joined_town(chance, chance.choice(towers))
        fears = some_fears_of(chance, town[0])
        liars = chance.choice(fears if chance.random() < 0.6 else lots_of(town[0]))
        many = chance.randint(0, letters)
        if chance.random() < 0.8:
            cases.append((town, fears, heard_run(chance, town, liars, many)))
        else:
            cases.append((town, fears, some_run(chance, town, many)))
    return cases


def explained_inquests(seed, count, towers=(1, 2, 3, 4), letters=8):
    """Those of such triples in which some feared lot explains the run."""
    return [case for case in some_inquests(seed, count, towers, letters) if plain_suspects(*case)]


def parted_inquests(seed, count, towers=(3, 4)):
    """Such triples in which no lot is sure: all towers joined, each feared, a full run that one spoiled."""
    chance = random.Random(seed)
    cases = []
    while len(cases) < count:
        town = joined_town(chance, chance.choice(towers), 1)
        fears = tuple((tower,) for tower in town[0])
        run = []
        for one, other, low, high in town[1]:
            late = chance.randint(low, high) + (chance.randint(0, 12) if other == town[0][-1] else 0)
            run.append((one, other, 0, late) if chance.random() < 0.8 else (other, one, 0, high + low - late))
        if plain_suspects(town, fears, tuple(run)):
            cases.append((town, fears, tuple(run)))
    return cases


def some_rates(chance, town):
    """Rates of the town by chance, of several kinds."""
    far = chance.choice((0, 0, 1, 100, 500, 999))
    rates = []
    for _ in town[0]:
        slow, fast = sorted((chance.randint(-far, far), chance.randint(-far, far)))
        rates.append(chance.choice(((slow, fast), (slow, slow), (-far, far), (0, 0))))
    return tuple(rates)


def drift_run(chance, town, rates, liars, many):
    """A run of so many letters, sent at hours far from one another, of clocks that gain or lose at rates.

    They are sound, but for what is rounded, and for those from or to the liars.
    """
    start = {tower: chance.randint(-3, 3) for tower in town[0]}
    rate_of = {tower: chance.randint(*rate) for tower, rate in zip(town[0], rates)}
    letters = []
    for _ in range(many if town[1] else 0):
        one, other, low, high = chance.choice(town[1])
        if chance.random() < 0.5:
            one, other = other, one
        sent = chance.choice((-20, -9, -2, 0, 0, 1, 3, 8, 15))
        more = start[other] - start[one] + (rate_of[other] - rate_of[one]) * sent // 1000
        late = chance.randint(low, high) + (chance.randint(-6, 6) if one in liars or other in liars else 0)
        letters.append((one, other, sent, sent + more + late))
    return tuple(letters)


def some_drifts(seed, count, towers=(1, 2, 2, 3), letters=3):
    """So many tuples of a town, rates, fears, a run and hours, explained at rates or not."""
    chance = random.Random(seed)
    cases = []
    for _ in range(count):
        town = joined_town(chance, chance.choice(towers))
        rates = some_rates(chance, town)
        fears = some_fears_of(chance, town[0]) if chance.random() < 0.6 else ((),)
        liars = chance.choice(fears if chance.random() < 0.6 else lots_of(town[0]))
        many = chance.choice((0, letters - 1, letters, letters, letters))
        run = drift_run(chance, town, rates, liars, many)
        hours = tuple(chance.choice((0, 1, 3, -2, -9, 15, 40)) for _ in town[0])
        cases.append((town, rates, fears, run, hours))
    return cases


def plain_events(town, run, lot, hours):
    """The events of the run, the lot and hours by the words of [66], ascending."""
    events = {(tower, hour) for tower, hour in zip(town[0], hours) if tower not in lot}
    for one, other, sent, heard in run:
        if one not in lot and other not in lot:
            events |= {(one, sent), (other, heard)}
    return sorted(events)


def plain_ties_at(town, rates, run, lot, hours):
    """What binds the gains of events by the words of [66]: ties (event, event, most, k) of Python's fractions.

    Each two events of one tower are bound, not only those that follow one another.
    """
    ties = []
    for k, (one, other, sent, heard) in enumerate(run):
        if one not in lot and other not in lot:
            low, high = [wire[2:] for wire in town[1] if set(wire[:2]) == {one, other}][0]
            ties.append(((one, sent), (other, heard), fractions.Fraction(heard - sent - low), k))
            ties.append(((other, heard), (one, sent), fractions.Fraction(high - (heard - sent)), k))
    for early, late in itertools.combinations(plain_events(town, run, lot, hours), 2):
        if early[0] == late[0]:
            slow, fast = rates[town[0].index(early[0])]
            ties.append((early, late, fractions.Fraction((late[1] - early[1]) * fast, 1000), None))
            ties.append((late, early, fractions.Fraction((early[1] - late[1]) * slow, 1000), None))
    return ties


@functools.lru_cache(maxsize=None)
def plain_suspects_at(town, rates, fears, run):
    """All suspects at rates, by all rings of events that pass no event twice."""
    found = []
    for lot in plain_feared(fears):
        ties = plain_ties_at(town, rates, run, lot, (0,) * len(town[0]))
        starts = {tie[0] for tie in ties}
        if not any(end == start and total < 0 for start in starts for _, end, total in all_chains(ties, start)):
            found.append(lot)
    return tuple(found)


def plain_reaches_at(town, rates, fears, run, hours):
    """All told reaches at hours, by all suspects and all chains of events that pass no event twice."""
    found = {}
    for lot in plain_suspects_at(town, rates, fears, run):
        ties = plain_ties_at(town, rates, run, lot, hours)
        asked = [(tower, hour) for tower, hour in zip(town[0], hours) if tower not in lot]
        for start in asked:
            sums = {}
            for _, end, total in all_chains(ties, start):
                sums[end] = min(total, sums.get(end, total))
            for end in asked:
                if end != start:
                    found.setdefault((start[0], end[0]), []).append(sums.get(end))
    return tuple((*pair, None if None in found[pair] else max(found[pair])) for pair in sorted(found))


def plain_nearest(towers, rows):
    """The least nearness by all circles of told reaches, one of Python's fractions; None without."""
    if None in [most for _, _, most in rows]:
        return None
    return max([fractions.Fraction(0), *plain_means(towers, rows).values()])


def in_fractions(rows):
    """Told reaches as the document has them at hours."""
    return tuple((one, other, None if most is None else as_pair(fractions.Fraction(most))) for one, other, most in rows)


def some_settings(chance, towers, best, many):
    """Settings by chance: any, and some that lie close to one that is told."""
    found = []
    for _ in range(many):
        near = best if best is not None and chance.random() < 0.7 else ((0, 1),) * len(towers)
        steps = [fractions.Fraction(chance.randint(-6, 6), chance.choice((1, 2, 3, 7, 1000))) for _ in towers]
        found.append(tuple(as_pair(fractions.Fraction(*one) + step) for one, step in zip(near, steps)))
    return found
