"""Points [57] to [59] and (O4): when nearness has a bound."""

import itertools
import random
from fractions import Fraction

from nearhours.parting import bound_of, is_bounded, play_of, three_lots, two_lots
from nearhours.runs import is_full
from nearhours.settings import nearest
from nearhours.suspects import suspects
from tests.support import (
    ALONE, EACH, RING, TWO, Case, heard_run, joined_town, lots_of, plain_feared, some_fears_of,
)

FOUR = (("a", "b", "c", "d"), tuple((one, other, 0, 2) for one, other in itertools.combinations("abcd", 2)))
APART = (("a", "b"), ())


def some_doubts(seed, count, towers=(1, 2, 3, 4, 5)):
    """Pairs of a town and fears of it, always the same ones for a seed."""
    chance = random.Random(seed)
    cases = []
    for _ in range(count):
        town = joined_town(chance, chance.choice(towers), chance.choice((0.6, 0.85, 1)))
        cases.append((town, some_fears_of(chance, town[0])))
    return cases


def plain_threes(town, fears):
    """All sets of three nonempty feared lots that part the towers."""
    feared = [lot for lot in plain_feared(fears) if lot]
    return [lots for lots in itertools.combinations(feared, 3) if sorted(sum(lots, ())) == list(town[0])]


def left_by(town, one, other):
    return [tower for tower in town[0] if tower not in one and tower not in other]


def are_joined(town, part, rest):
    """Whether a wire joins a tower of the one with a tower of the other."""
    return any({one, other} & set(part) and {one, other} & set(rest) for one, other, _, _ in town[1])


def plain_twos(town, fears):
    """All triples of two feared lots and a part that no wire joins with what further is left."""
    found = []
    for one, other in itertools.product(plain_feared(fears), repeat=2):
        left = left_by(town, one, other)
        for part in lots_of(left):
            rest = [tower for tower in left if tower not in part]
            if part and rest and not are_joined(town, part, rest):
                found.append((one, other, part))
    return found


def all_ways(town, left):
    """The widths of each way along wires within the towers left, by its ends."""
    width = {}
    for one, other, low, high in town[1]:
        width[one, other] = width[other, one] = high - low
    sums = {}
    for many in range(2, len(left) + 1):
        for way in itertools.permutations(left, many):
            steps = list(zip(way, way[1:]))
            if all(step in width for step in steps):
                sums.setdefault((way[0], way[-1]), []).append(sum(width[step] for step in steps))
    return sums


def plain_play(town, fears):
    """The play by all ways along wires; the towers left hang together."""
    feared = plain_feared(fears)
    lefts = {tuple(left_by(town, one, other)) for one, other in itertools.product(feared, repeat=2)}
    return max([0] + [min(sums) for left in lefts for sums in all_ways(town, left).values()])


class Lots(Case):
    def test_edges(self):
        for fears in (((),), (("a",),)):
            self.same((three_lots(ALONE, fears), two_lots(ALONE, fears), is_bounded(ALONE, fears)), (None, None, True))
            self.same((play_of(ALONE, fears), bound_of(ALONE, fears)), (0, 0))
        self.same((three_lots(APART, ((),)), is_bounded(APART, ((),))), (None, False))
        self.assertIn(two_lots(APART, ((),)), (((), (), ("a",)), ((), (), ("b",))))
        self.same((play_of(APART, ((),)), bound_of(APART, ((),))), (None, None))
        self.same((is_bounded(APART, (("a",),)), is_bounded(TWO, (("a", "b"),))), (False, True))
        self.same((play_of(TWO, (("a", "b"),)), bound_of(TWO, (("a", "b"),))), (2, 4))

    def test_all_towers_feared(self):
        self.same(three_lots(RING, (("a", "b", "c"),)), EACH)
        self.same(two_lots(RING, (("a", "b", "c"),)), None)
        self.same((play_of(RING, (("a", "b", "c"),)), bound_of(RING, (("a", "b", "c"),))), (2, None))

    def test_three_lots_need_all_towers(self):
        self.same(three_lots(FOUR, (("a",), ("b",), ("c", "d"))), (("a",), ("b",), ("c", "d")))
        self.same(three_lots(FOUR, (("a", "c"), ("b",), ("d",))), (("a", "c"), ("b",), ("d",)))
        self.same(three_lots(FOUR, (("a",), ("b",), ("c",))), None)
        self.same(three_lots(FOUR, (("a", "b"), ("c", "d"))), (("a",), ("b",), ("c", "d")))
        self.same(three_lots(FOUR, (("a", "b", "c"),)), None)

    def test_play_goes_by_the_least_sums(self):
        wide = (("a", "b", "c"), (("a", "b", 0, 9), ("a", "c", -1, 1), ("b", "c", 5, 8)))
        self.same((play_of(wide, ((),)), bound_of(wide, ((),))), (5, 10))
        self.same((play_of(wide, (("c",),)), bound_of(wide, (("c",),))), (9, 18))
        self.same((play_of(wide, (("b",),)), bound_of(wide, (("b",),))), (5, 10))
        self.same(play_of(wide, (("b",), ("c",))), 9)

    def test_by_name(self):
        for call in (three_lots, two_lots, is_bounded, play_of, bound_of):
            self.same(call(fears=EACH, town=RING), call(RING, EACH))
            self.same(call(RING, EACH), call(RING, EACH))

    def test_against_all_lots(self):
        seen = {}
        for town, fears in some_doubts(580, 400):
            threes, twos = plain_threes(town, fears), plain_twos(town, fears)
            self.assertIn(three_lots(town, fears), threes or [None])
            self.assertIn(two_lots(town, fears), twos or [None])
            self.assertIs(is_bounded(town, fears), not threes and not twos)
            play = None if twos else plain_play(town, fears)
            self.same(play_of(town, fears), play)
            self.same(bound_of(town, fears), None if threes or twos else 2 * play)
            seen[bool(threes), bool(twos)] = seen.get((bool(threes), bool(twos)), 0) + 1
        self.assertEqual(len(seen), 4)
        self.assertGreater(min(seen.values()), 10)

    def test_hangs_on_no_bounds(self):
        for town, fears in some_doubts(581, 60):
            wide = (town[0], tuple((one, other, low - 3, high + 4) for one, other, low, high in town[1]))
            self.same(is_bounded(wide, fears), is_bounded(town, fears))
            if is_bounded(town, fears):
                self.assertLessEqual(play_of(town, fears), sum(high - low for _, _, low, high in town[1]))
            for k in range(len(town[1])):
                less = (town[0], town[1][:k] + town[1][k + 1:])
                self.assertTrue(is_bounded(town, fears) or not is_bounded(less, fears))
            for lot in lots_of(town[0])[:8]:
                more = tuple(sorted({*fears, lot}))
                self.assertTrue(is_bounded(town, fears) or not is_bounded(town, more))

    def test_no_full_run_passes_the_bound(self):
        chance = random.Random(582)
        full, sound = 0, 0
        for town, fears in some_doubts(582, 260, (2, 3, 4)):
            if not is_bounded(town, fears):
                continue
            for _ in range(4):
                run = heard_run(chance, town, chance.choice(fears), chance.randint(0, 4))
                run += tuple(heard_run(chance, (town[0], (wire,)), chance.choice(fears), 1)[0] for wire in town[1])
                found = suspects(town, fears, run)
                if not found:
                    continue
                self.assertTrue(is_full(town, run))
                full += 1
                least = Fraction(*nearest(town, fears, run))
                self.assertLessEqual(least, bound_of(town, fears))
                if () in found:
                    sound += 1
                    self.assertLessEqual(least, play_of(town, fears))
        self.assertGreater(full, 200)
        self.assertGreater(sound, 50)
