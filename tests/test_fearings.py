"""Points [63] to [65]: towns and fears as objects, and what a bound hangs on."""

import itertools
import random
from fractions import Fraction

from nearhours.fearings import Fearing
from nearhours.parting import bound_of, is_bounded, play_of
from nearhours.settings import nearest
from nearhours.suspects import suspects
from nearhours.towns import Town
from tests.support import (
    ALONE, EACH, ODDITIES, RING, TWO, Case, heard_run, lots_of, plain_feared,
)
from tests.test_parting import APART, FOUR, plain_threes, plain_twos, some_doubts

LANE = (("a", "b", "c"), (("a", "b", 0, 2), ("b", "c", 0, 3)))
NO_LOTS = (None, True, 0, "a", "", [], ["a"], ("z",), ("b", "a"), ("a", "a"), (1,), (True,), (("a",),))


def plainly_bounded(town, fears):
    return not plain_threes(town, fears) and not plain_twos(town, fears)


def rest_of(fears, lots):
    """The fears without these lots, with () in their place if none is left."""
    return tuple(lot for lot in fears if lot not in lots) or ((),)


def joined_by(town, one, other, low=0, high=0):
    """The town with a wire more."""
    return town[0], tuple(sorted(town[1] + ((one, other, low, high),)))


def cut_at(town, k):
    """The town without its wire k."""
    return town[0], town[1][:k] + town[1][k + 1:]


def hang_together(town):
    """Whether wires lead from the first tower to each other one."""
    reached = {town[0][0]}
    for _ in town[0]:
        reached |= {end for wire in town[1] for end in wire[:2] if reached & set(wire[:2])}
    return len(reached) == len(town[0])


def state(one):
    """All that a Fearing tells of itself."""
    return repr((one.town_now, one.fears_now, one.bounded_now, one.play_now, one.bound_now, list(one), len(one),
                 str(one), one.given_up(), one.joining(), one.needed()))


class Fearings(Case):
    def setUp(self):
        self.one = Fearing(RING, *EACH)

    def test_properties(self):
        for town, fears in some_doubts(630, 100):
            one = Fearing(town, *fears)
            self.same((one.town_now, one.fears_now, tuple(one), len(one)), (town, fears, fears, len(fears)))
            self.same(one.bounded_now, is_bounded(town, fears))
            self.same((one.play_now, one.bound_now), (play_of(town, fears), bound_of(town, fears)))
            self.assertIs(one.bounded_now, plainly_bounded(town, fears))

    def test_made_of_any_values(self):
        for town in ODDITIES:
            self.not_usable("town", -1, Fearing, town)
            self.not_usable("town", -1, Fearing, town, None)
        self.not_usable("fears", -1, Fearing, RING)
        self.not_usable("fears", -1, Fearing, town=RING)
        for lot in NO_LOTS:
            self.not_usable("fears", -1, Fearing, RING, lot)
            self.not_usable("fears", -1, Fearing, RING, ("a",), lot)
        self.not_usable("fears", -1, Fearing, RING, EACH)
        self.not_usable("fears", -1, Fearing, RING, ("b",), ("a",))
        self.not_usable("fears", -1, Fearing, RING, ("a",), ("a",))

    def test_contains(self):
        for town, fears in some_doubts(631, 40):
            one = Fearing(town, *fears)
            for lot in lots_of(town[0]):
                self.assertIs(lot in one, lot in plain_feared(fears))
        for thing in ODDITIES + NO_LOTS + (self.one, Town.of(RING), ("a", "b"), EACH, RING):
            self.assertIs(thing in self.one, thing == ("a",), thing)
        self.assertIs(() in self.one, True)

    def test_text(self):
        self.same(str(self.one), "a / b / c")
        self.same(str(Fearing(RING, ())), "-")
        self.same(str(Fearing(RING, (), ("a", "b", "c"))), "- / a+b+c")
        self.same(str(Fearing((("ant", "bee"), ()), ("ant",), ("ant", "bee"))), "ant / ant+bee")

    def test_equality(self):
        self.assertTrue(self.one == Fearing(RING, *EACH))
        wide = (RING[0], RING[1][:2] + (("b", "c", 0, 3),))
        for other in (Fearing(RING, *EACH[:2]), Fearing(wide, *EACH), Town.of(RING), EACH, RING, None, 0, (RING, EACH)):
            self.assertIs(self.one == other, False)
            self.assertIs(self.one != other, True)

    def test_a_lot_more(self):
        for town, fears in some_doubts(632, 40):
            for lot in lots_of(town[0]):
                more = Fearing(town, *fears) + lot
                self.assertIs(type(more), Fearing)
                self.same((more.town_now, more.fears_now), (town, tuple(sorted({*fears, lot}))))
        self.assertTrue(self.one + ("b",) == self.one)
        for lot in NO_LOTS:
            self.not_usable("lot", -1, lambda: self.one + lot)

    def test_a_lot_less(self):
        for town, fears in some_doubts(633, 40):
            for lot in fears:
                less = Fearing(town, *fears) - lot
                self.assertIs(type(less), Fearing)
                self.same((less.town_now, less.fears_now), (town, rest_of(fears, (lot,))))
        self.same((Fearing(LANE, ()) - ()).fears_now, ((),))
        for lot in NO_LOTS + ((), ("a", "b"), EACH):
            self.not_usable("lot", -1, lambda: self.one - lot)
        self.not_usable("lot", -1, lambda: Fearing(RING, ("a", "b")) - ("a",))

    def test_it_never_changes(self):
        before = state(self.one)
        for ask in (lambda: self.one + ("a", "b"), lambda: self.one - ("a",), lambda: self.one.given_up(),
                    lambda: self.one.joining(), lambda: self.one.needed()):
            self.assertTrue(ask() == ask())
            self.same(state(self.one), before)
        for refused in (lambda: self.one + None, lambda: self.one - None, lambda: self.one - ()):
            self.refusal(refused)
            self.same(state(self.one), before)
        for name in ("town_now", "fears_now", "bounded_now", "play_now", "bound_now"):
            with self.assertRaises(AttributeError):
                setattr(self.one, name, ())

    def test_iterated_over_twice_at_once(self):
        self.same([(one, other) for one in self.one for other in self.one],
                  [(one, other) for one in EACH for other in EACH])
        first, second = iter(self.one), iter(self.one)
        self.same((next(first), next(first), next(second)), (EACH[0], EACH[1], EACH[0]))


class WhatItHangsOn(Case):
    def test_given_up(self):
        seen = {}
        for town, fears in some_doubts(640, 250):
            found = Fearing(town, *fears).given_up()
            fewest = [
                many for many in range(len(fears) + 1) for lots in itertools.combinations(fears, many)
                if plainly_bounded(town, rest_of(fears, lots))
            ][:1]
            if not fewest:
                self.assertIsNone(found)
            else:
                self.assertIsInstance(found, tuple)
                self.same(found, tuple(sorted(set(found) & set(fears))))
                self.assertEqual(len(found), fewest[0])
                self.assertTrue(plainly_bounded(town, rest_of(fears, found)))
                self.assertIs(found == (), plainly_bounded(town, fears))
            kind = None if found is None else (len(found), len(found) == len(fears))
            seen[kind] = seen.get(kind, 0) + 1
        # None, nothing, one of several, the last one, and several.
        for kind in (None, (0, False), (1, False), (1, True), (2, True)):
            self.assertGreater(seen.get(kind, 0), 0, seen)

    def test_given_up_edges(self):
        self.same(Fearing(ALONE, ()).given_up(), ())
        self.same(Fearing(APART, ()).given_up(), None)
        self.same(Fearing(APART, ("a",), ("b",)).given_up(), None)
        self.same(Fearing(RING, ("a", "b", "c")).given_up(), (("a", "b", "c"),))
        self.same(Fearing(LANE, ("a",), ("b",), ("c",)).given_up(), (("b",),))

    def test_joining(self):
        seen = {True: 0, False: 0}
        chance = random.Random(641)
        for town, fears in some_doubts(642, 150):
            free = [pair for pair in itertools.combinations(town[0], 2) if pair not in {wire[:2] for wire in town[1]}]
            found = Fearing(town, *fears).joining()
            self.assertIsInstance(found, tuple)
            self.same(found, tuple(pair for pair in free if plainly_bounded(joined_by(town, *pair), fears)))
            for pair in free:
                low = chance.randint(-9, 9)
                wide = joined_by(town, *pair, low, low + chance.randint(0, 9))
                self.assertIs(pair in found, is_bounded(wide, fears))
                seen[pair in found] += 1
            if is_bounded(town, fears):
                self.same(found, tuple(free))
        self.assertGreater(min(seen.values()), 20)
        self.same(Fearing(ALONE, ()).joining(), ())
        self.same(Fearing(APART, ()).joining(), (("a", "b"),))

    def test_needed(self):
        seen = {True: 0, False: 0}
        for town, fears in some_doubts(643, 150):
            found = Fearing(town, *fears).needed()
            self.assertIsInstance(found, tuple)
            indexes = range(len(town[1]))
            self.same(found, tuple(k for k in indexes if not plainly_bounded(cut_at(town, k), fears)))
            if not is_bounded(town, fears):
                self.same(found, tuple(indexes))
            else:
                for k in indexes:
                    seen[k in found] += 1
        self.assertGreater(min(seen.values()), 10)
        self.same(Fearing(ALONE, ()).needed(), ())
        self.same(Fearing(RING, ()).needed(), ())
        self.same(Fearing(TWO, ("a", "b")).needed(), (0,))


class Consequences(Case):
    def test_not_on_bounds(self):
        chance = random.Random(650)
        for town, fears in some_doubts(651, 80):
            wires = []
            for one, other, _, _ in town[1]:
                low = chance.randint(-50, 50)
                wires.append((one, other, low, low + chance.randint(0, 50)))
            one, other = Fearing(town, *fears), Fearing((town[0], tuple(wires)), *fears)
            self.same((one.bounded_now, one.given_up(), one.joining(), one.needed()),
                      (other.bounded_now, other.given_up(), other.joining(), other.needed()))
            if one.play_now is not None:
                self.assertLessEqual(one.play_now, sum(high - low for _, _, low, high in town[1]))

    def test_no_bound_by_more_lots_or_fewer_wires(self):
        for town, fears in some_doubts(652, 60):
            one = Fearing(town, *fears)
            if not one.bounded_now:
                for lot in lots_of(town[0])[:10]:
                    self.assertIs((one + lot).bounded_now, False)
                for k in range(len(town[1])):
                    self.assertIs(Fearing(cut_at(town, k), *fears).bounded_now, False)

    def test_without_fears(self):
        seen = {True: 0, False: 0}
        for town, fears in some_doubts(653, 120):
            whole = hang_together(town)
            self.assertIs(Fearing(town, ()).bounded_now, whole)
            self.assertIs(Fearing(town, *fears).given_up() is not None, whole)
            seen[whole] += 1
        self.assertGreater(min(seen.values()), 5)

    def test_runs_keep_to_the_bound(self):
        chance = random.Random(654)
        far = 0
        for town, fears in some_doubts(655, 120, (2, 3, 4)):
            bound = Fearing(town, *fears).bound_now
            if bound is None:
                continue
            run = tuple(heard_run(chance, (town[0], (wire,)), chance.choice(fears), 1)[0] for wire in town[1])
            if suspects(town, fears, run):
                self.assertLessEqual(Fraction(*nearest(town, fears, run)), bound)
                far += 1
        self.assertGreater(far, 30)
        # A run that is not full has no nearness for all that.
        self.same((Fearing(FOUR, ()).bound_now, nearest(FOUR, ((),), ())), (4, None))
