"""Points [66] to [69], (O5) and what [73] says of them: clocks that gain or lose as they run."""

import random
from fractions import Fraction

from nearhours.drifting import nearest_at, nearness_at, reach_at, reaches_at, setting_at, suspects_at
from nearhours.rates import lets_rates
from nearhours.reaching import reaches
from nearhours.settings import nearest
from nearhours.suspects import suspects
from nearhours.waiting import last_hour
from tests.support import (
    ALONE, EACH, LONG, ODD, ODDITIES, RING, TWO, Case, as_pair, explained_inquests, in_fractions, plain_nearest,
    plain_reaches_at, plain_suspects_at, some_drifts, some_inquests, some_rates, some_settings,
)

NONE, ONE = ((),), (("a", "b", 5, 6),)
FAST, SLOWER, STILL = ((-100, 100), (0, 0)), ((0, 100), (0, 0)), ((0, 0), (0, 0))
TORN = (("a", "b", 0, 1), ("a", "b", 0, 4))


def explained_drifts(seed, count, towers=(1, 2, 2, 3), letters=3):
    """Those drifts in which some feared lot explains the run at rates."""
    return [case for case in some_drifts(seed, count, towers, letters) if suspects_at(*case[:4])]


def is_no_less(one, other):
    """Whether a nearness or a reach is no less than another one, None being greatest."""
    return one is None or (other is not None and Fraction(*one) >= Fraction(*other))


class Rates(Case):
    def test_right_ones(self):
        self.same(lets_rates(TWO, ((-999, 999), (0, 0))), 1998)
        self.same(lets_rates(town=TWO, thing=((5, 5), (-999, -999))), 0)
        self.same(lets_rates(ALONE, ((999, 999),)), 0)
        self.same(lets_rates(RING, ((1, 2), (-3, 2), (0, 4))), 5)

    def test_shape(self):
        for thing in ODDITIES:
            if not isinstance(thing, tuple):
                self.invalid("shape", -1, lets_rates, RING, thing)
        self.invalid("shape", -1, lets_rates, TWO, list(STILL))

    def test_many(self):
        for thing in ((), STILL[:1], STILL * 2, (None,), (1, 2, 3)):
            self.invalid("many", -1, lets_rates, TWO, thing)

    def test_rate(self):
        for rate in (None, True, 0, "ab", (), (0,), (0, 0, 0), [0, 0], (0, True), (False, 0), (1, 0), (0, 1000),
                     (-1000, 0), (999, 1000), (-1000, -1000), (0, LONG), ("0", "0"), (None, 0), ((0, 1), 2)):
            self.invalid("rate", 0, lets_rates, TWO, (rate, (0, 0)))
            self.invalid("rate", 1, lets_rates, TWO, ((0, 0), rate))
            self.invalid("rate", 1, lets_rates, RING, ((0, 0), rate, None))

    def test_the_town_comes_first(self):
        for town in ODDITIES:
            self.not_usable("town", -1, lets_rates, town, None)


class Suspects(Case):
    def test_against_all_rings(self):
        seen = {}
        for town, rates, fears, run, _ in some_drifts(680, 250) + some_drifts(678, 60, (3,), 4) + some_drifts(679, 40, (2,), 4):
            found = suspects_at(town, rates, fears, run)
            self.same(found, plain_suspects_at(town, rates, fears, run))
            kind = (found == (), found == suspects(town, fears, run))
            seen[kind] = seen.get(kind, 0) + 1
        for kind in ((True, True), (False, True), (False, False)):
            self.assertGreater(seen[kind], 5, seen)

    def test_explained_at_rates_only(self):
        self.same(suspects_at(RING, ((0, 0),) * 3, NONE, ODD), ())
        self.same(suspects_at(town=RING, rates=((-500, 500),) * 3, fears=NONE, run=ODD), ((),))
        # In 10 hours b gained 1 hour or more, or in 9 hours a lost as much.
        near = (("a", "b", 0, 1), ("b", "a", 11, 9))
        self.same([suspects_at(TWO, ((0, 0), (-k, k)), NONE, near) for k in (0, 99, 100, 999)], [(), (), NONE, NONE])
        self.same([suspects_at(TWO, ((-k, k), (0, 0)), NONE, near) for k in (0, 111, 112, 999)], [(), (), NONE, NONE])
        self.same([suspects_at(TWO, ((-52, 52), (-k, k)), NONE, near) for k in (53, 54)], [(), NONE])

    def test_one_tower(self):
        self.same(suspects_at(ALONE, ((-1, 1),), (("a",),), ()), ((), ("a",)))


class Reaches(Case):
    def test_against_all_chains(self):
        seen = {"none": 0, "told": 0, "not told": 0}
        for town, rates, fears, run, hours in explained_drifts(681, 260) + explained_drifts(685, 60, (3,), 4):
            rows = plain_reaches_at(town, rates, fears, run, hours)
            told = in_fractions(rows)
            self.same(reaches_at(town, rates, fears, run, hours), told)
            self.same(nearest_at(town, rates, fears, run, hours), self.wanted(town, rows))
            known = {row[:2]: row[2] for row in told}
            for one in town[0]:
                for other in town[0]:
                    if (one, other) in known:
                        self.same(reach_at(town, rates, fears, run, hours, one, other), known[one, other])
                        seen["none" if known[one, other] is None else "told"] += 1
                    elif one != other:
                        self.not_usable("other", other, reach_at, town, rates, fears, run, hours, one, other)
                        seen["not told"] += 1
        self.assertGreater(min(seen.values()), 20, seen)

    def wanted(self, town, rows):
        least = plain_nearest(town[0], rows)
        return None if least is None else as_pair(least)

    def test_longer_runs(self):
        for town, rates, fears, run, hours in explained_drifts(682, 20, (2,), 4) + explained_drifts(683, 20, (4,), 2):
            rows = plain_reaches_at(town, rates, fears, run, hours)
            self.same(reaches_at(town, rates, fears, run, hours), in_fractions(rows))
            self.same(nearest_at(town, rates, fears, run, hours), self.wanted(town, rows))

    def test_hours_far_from_all_letters(self):
        self.same([nearest_at(TWO, FAST, NONE, ONE, (5 + far, 6)) for far in (0, 1, -1, 1000, -1000)],
                  [(1, 1), (11, 10), (11, 10), (101, 1), (101, 1)])
        self.same(nearest_at(TWO, ((0, 0), (-999, 999)), NONE, ONE, (0, LONG)), as_pair(
            1 + Fraction((LONG - 6) * 999, 1000)))
        self.same(reaches_at(TWO, SLOWER, NONE, ONE, (-5, 6)), (("a", "b", (2, 1)), ("b", "a", (1, 1))))
        steady = ((100, 100), (-100, -100))
        self.same([nearest_at(TWO, steady, NONE, ONE, hours) for hours in ((5, 6), (900, -900))], [(1, 1), (1, 1)])
        self.same(reaches_at(TWO, steady, NONE, ONE, (15, 6)), (("a", "b", (0, 1)), ("b", "a", (2, 1))))

    def test_events_of_one_hour(self):
        # What a heard and sent at 6 is one event: it ties b to c by way of a, whatever the rates.
        run = (("b", "a", 0, 6), ("a", "c", 6, 0))
        wild = ((-999, 999),) * 3
        self.same(nearest_at(RING, wild, NONE, run, (6, 0, 0)), (2, 1))
        self.same(reach_at(RING, wild, NONE, run, (6, 0, 0), "b", "c"), (0, 1))
        self.same(reach_at(RING, wild, NONE, run, (6, 0, 0), "c", "b"), (4, 1))
        self.same(reach_at(RING, wild, NONE, run, (500, 0, 0), "b", "c"), (0, 1))
        self.same(suspects_at(TWO, ((-999, 999),) * 2, NONE, (("a", "b", 0, 0), ("a", "b", 0, 3))), ((),))
        self.same(suspects_at(TWO, ((-999, 999), (0, 0)), NONE, (("a", "b", 0, 0), ("a", "b", 0, 3))), ())

    def test_edges(self):
        self.same((reaches_at(ALONE, ((-1, 1),), NONE, (), (7,)), nearest_at(ALONE, ((-1, 1),), NONE, (), (7,)),
                   setting_at(ALONE, ((-1, 1),), NONE, (), (7,))), ((), (0, 1), ((0, 1),)))
        without = (("a", "b"), ())
        self.same(reaches_at(without, STILL, NONE, (), (0, 0)), (("a", "b", None), ("b", "a", None)))
        self.same((nearest_at(without, STILL, NONE, (), (0, 0)), setting_at(without, STILL, NONE, (), (0, 0)),
                   nearness_at(without, STILL, NONE, (), (0, 0), ((0, 1), (0, 1)))), (None, None, None))
        self.same(reach_at(without, STILL, NONE, (), (0, 0), "a", "b"), None)
        stiff = (("a", "b"), (("a", "b", 3, 3),))
        self.same(nearest_at(stiff, FAST, NONE, ONE, (5, 6)), (0, 1))
        self.same(reaches_at(stiff, FAST, NONE, ONE, (5, 6)), (("a", "b", (-2, 1)), ("b", "a", (2, 1))))

    def test_run_that_nobody_explains_comes_last(self):
        for call, told in ((reaches_at, ()), (nearest_at, ()), (setting_at, ()), (reach_at, ("a", "b")),
                           (nearness_at, (((0, 1), (0, 1)),))):
            self.not_usable("run", -1, call, TWO, STILL, NONE, TORN, (0, 0), *told)
            self.not_usable("hours", -1, call, TWO, STILL, NONE, TORN, (0,), *told)
        self.not_usable("one", "z", reach_at, TWO, STILL, NONE, TORN, (0, 0), "z", "b")
        self.not_usable("setting", -1, nearness_at, TWO, STILL, NONE, TORN, (0, 0), ((0, 1),))
        self.not_usable("run", -1, last_hour, TWO, STILL, NONE, TORN, 0, (9, 1))
        # It is explained at rates only: then it is not refused.
        self.not_usable("run", -1, nearest_at, RING, ((0, 0),) * 3, NONE, ODD, (0, 0, 0))
        self.assertIsNotNone(nearest_at(RING, ((-500, 500),) * 3, NONE, ODD, (0, 0, 0)))

    def test_asking_twice(self):
        for town, rates, fears, run, hours in explained_drifts(684, 20):
            for call in (reaches_at, nearest_at, setting_at):
                told = {"hours": hours, "run": run, "fears": fears, "rates": rates, "town": town}
                self.same(call(**told), call(town, rates, fears, run, hours))


class Settings(Case):
    def test_no_setting_is_nearer(self):
        chance = random.Random(690)
        near, far = 0, 0
        for town, rates, fears, run, hours in explained_drifts(691, 120):
            least = nearest_at(town, rates, fears, run, hours)
            best = setting_at(town, rates, fears, run, hours)
            if least is None:
                self.assertIsNone(best)
                far += 1
            else:
                self.assertIs(type(best), tuple)
                self.same(nearness_at(town, rates, fears, run, hours, best), least)
                near += 1
            rows = plain_reaches_at(town, rates, fears, run, hours)
            for setting in some_settings(chance, town[0], best, 6):
                found = nearness_at(town, rates, fears, run, hours, setting)
                self.same(found, self.plain_nearness(town, rows, setting))
                self.assertTrue(is_no_less(found, least))
        self.assertGreater(min(near, far), 20)

    def plain_nearness(self, town, rows, setting):
        """By the words of [8]: what remains of one gain more than of another one, 0 at least."""
        if None in [most for _, _, most in rows]:
            return None
        taken = {tower: Fraction(*part) for tower, part in zip(town[0], setting)}
        return as_pair(max([Fraction(0)] + [most + taken[one] - taken[other] for one, other, most in rows]))

    def test_long_settings(self):
        setting = ((LONG, 7), (1, LONG))
        wanted = 1 + Fraction(LONG, 7) - Fraction(1, LONG)
        self.same(nearness_at(TWO, FAST, NONE, ONE, (5, 6), setting), as_pair(wanted))


class LastHour(Case):
    def test_against_all_hours(self):
        chance = random.Random(695)
        seen = {"none": 0, "last": 0, "between": 0}
        for town, rates, fears, run, _ in explained_drifts(696, 60, (1, 2, 2, 2, 3), 3):
            first = chance.randint(-40, 10)
            most = as_pair(Fraction(chance.randint(0, 40), chance.choice((1, 2, 3, 7))))
            wanted = None
            for hour in range(first, first + 64):
                found = nearest_at(town, rates, fears, run, (hour,) * len(town[0]))
                if found is not None and Fraction(*found) <= Fraction(*most):
                    wanted = hour
            self.same(last_hour(town, rates, fears, run, first, most), wanted)
            seen["none" if wanted is None else "last" if wanted == first + 63 else "between"] += 1
        self.assertGreater(min(seen.values()), 3, seen)

    def test_edges(self):
        self.same([last_hour(TWO, FAST, NONE, ONE, first, (3, 1)) for first in (-58, -57, 24, 25, 26, 27)],
                  [5, 6, 25, 25, None, None])
        self.same(last_hour(TWO, FAST, NONE, ONE, 6, (1999, 1000)), 14)
        self.same(last_hour(most=(21, 10), first=6, run=ONE, fears=NONE, rates=FAST, town=TWO), 16)
        self.same(last_hour(TWO, STILL, NONE, ONE, LONG, (1, 1)), LONG + 63)
        self.same(last_hour(TWO, STILL, NONE, ONE, -LONG, (0, 1)), None)
        self.same(last_hour(TWO, STILL, NONE, ONE, 0, (-1, 1)), None)
        self.same(last_hour(TWO, STILL, NONE, (), 0, (LONG, 1)), None)
        self.same(last_hour(ALONE, ((-999, 999),), NONE, (), 5, (0, 1)), 68)


    def test_refusals(self):
        for town in ODDITIES:
            self.not_usable("town", -1, last_hour, town, None, None, None, 0, (1, 1))
        for rates in (None, (), STILL * 2, list(FAST), ((0, 0), (1, 0))):
            self.not_usable("rates", -1, last_hour, TWO, rates, None, None, 0, (1, 1))
        for fears in (None, (), [()], (("b",), ("a",)), (("z",),)):
            self.not_usable("fears", -1, last_hour, TWO, FAST, fears, None, 0, (1, 1))
        for run in (None, [], (None,), (("a", "b", 0, True),), (("a", "z", 0, 1),)):
            self.not_usable("run", -1, last_hour, TWO, FAST, NONE, run, 0, (1, 1))


class Consequences(Case):
    def test_rates_of_0(self):
        chance = random.Random(730)
        for town, fears, run in some_inquests(731, 150, (1, 2, 3, 4), 8):
            still = ((0, 0),) * len(town[0])
            found = suspects(town, fears, run)
            self.same(suspects_at(town, still, fears, run), found)
            hours = tuple(chance.choice((0, 3, -70, LONG)) for _ in town[0])
            if found:
                self.same(reaches_at(town, still, fears, run, hours), in_fractions(reaches(town, fears, run)))
                self.same(nearest_at(town, still, fears, run, hours), nearest(town, fears, run))
            else:
                self.not_usable("run", -1, nearest_at, town, still, fears, run, hours)

    def test_wider_rates(self):
        chance = random.Random(732)
        seen = 0
        for town, rates, fears, run, hours in explained_drifts(733, 120, (1, 2, 3, 4), 6):
            wide = tuple((max(-999, slow - chance.randint(0, 300)), min(999, fast + chance.randint(0, 300)))
                         for slow, fast in rates)
            self.assertLessEqual(set(suspects_at(town, rates, fears, run)), set(suspects_at(town, wide, fears, run)))
            told = {row[:2]: row[2] for row in reaches_at(town, wide, fears, run, hours)}
            for one, other, most in reaches_at(town, rates, fears, run, hours):
                self.assertTrue(is_no_less(told[one, other], most))
            least, more = nearest_at(town, rates, fears, run, hours), nearest_at(town, wide, fears, run, hours)
            self.assertTrue(is_no_less(more, least))
            seen += least != more
        self.assertGreater(seen, 20)

    def test_a_letter_more(self):
        seen = 0
        for town, rates, fears, run, hours in explained_drifts(734, 120, (2, 3, 4), 7):
            if run:
                less, more = (nearest_at(town, rates, fears, told, hours) for told in (run[:-1], run))
                self.assertTrue(is_no_less(less, more))
                seen += less != more
        self.assertGreater(seen, 10)

    def test_later_hours(self):
        seen = 0
        for town, rates, fears, run, _ in explained_drifts(735, 150, (1, 2, 3), 6):
            last = max([hour for letter in run for hour in letter[2:]], default=0)
            found = [nearest_at(town, rates, fears, run, (last + k,) * len(town[0])) for k in (0, 1, 2, 9, 400)]
            for early, late in zip(found, found[1:]):
                self.assertTrue(is_no_less(late, early))
            seen += found[0] != found[-1]
        self.assertGreater(seen, 10)

    def test_only_told_lots_count(self):
        # More lots feared, none of them a part of another: no reach gets less.
        for town, fears, run in explained_inquests(736, 60, (2, 3, 4), 6):
            rates = some_rates(random.Random(len(run)), town)
            hours = (2,) * len(town[0])
            if suspects_at(town, rates, fears[:1], run):
                told = {row[:2]: row[2] for row in reaches_at(town, rates, fears, run, hours)}
                for one, other, most in reaches_at(town, rates, fears[:1], run, hours):
                    self.assertTrue(is_no_less(told[one, other], most))

    def test_all_towers_feared_each(self):
        self.same(reaches_at(RING, ((0, 0),) * 3, EACH, ODD, (0, 0, 0)), in_fractions(reaches(RING, EACH, ODD)))
