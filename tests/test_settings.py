"""Points [42] to [44], (O2): settings, worst circles, and what is left free."""

import itertools
import random
from fractions import Fraction

from nearhours.circles import room_between, worst_circle
from nearhours.kinds import is_fraction
from nearhours.reaching import reaches
from nearhours.settings import best_setting, nearest, nearness_of
from nearhours.suspects import suspects
from tests.support import (
    ALONE, EACH, LONG, ODD, RING, SIXTY, TWO, Case, as_pair, explained_inquests, parted_inquests, plain_means,
    plain_reaches, plainly_fit,
)

SPLIT = (("a", "b", 0, 0), ("a", "b", 0, 3))
MET = (("a", "b", 5, 6),)
# Between a and b the reaches are -3 and 3, so that their circle has a mean of 0.
STIFF = (("a", "b"), (("a", "b", 0, 0),))
PAIRS = (("a", "b", "c", "d"), (("a", "b", 0, 4), ("c", "d", 0, 1)))


def plain_nearness(towers, rows, setting):
    """The nearness of a setting by what is said behind the definition, as one of Python's fractions."""
    if any(most is None for _, _, most in rows):
        return None
    taken = dict(zip(towers, [Fraction(*pair) for pair in setting]))
    return max([Fraction(0)] + [most + taken[one] - taken[other] for one, other, most in rows])


def told_cases(seed, count, towers=(1, 2, 3, 4), letters=10):
    """Cases with the reaches, those that have a nearest and those that have none."""
    cases = explained_inquests(seed, count, towers, letters)
    parted = parted_inquests(seed, count // 3) if 4 in towers else []
    return [(*case, plain_reaches(*case)) for case in cases + parted]


def near_cases(seed, count, towers=(1, 2, 3, 4), letters=10):
    return [case for case in told_cases(seed, count, towers, letters) if None not in [row[2] for row in case[3]]]


def least_by(town, rows):
    """The least nearness by all circles."""
    return max([Fraction(0), *plain_means(town[0], rows).values()])


def sums_to(towers, rows, least, one):
    """From one to each tower the least sum of least less reach, along the way: no more can be taken less."""
    told = {row[:2]: least - row[2] for row in rows}
    sums = {one: Fraction(0)}
    for _ in towers:
        for (start, end), most in told.items():
            if start in sums and sums[start] + most < sums.get(end, sums[start] + most + 1):
                sums[end] = sums[start] + most
    return sums


class Nearest(Case):
    def test_one_tower(self):
        self.same(nearest(ALONE, ((),), ()), (0, 1))
        self.same(nearest(ALONE, (("a",),), ()), (0, 1))
        setting = best_setting(ALONE, ((),), ())
        self.assertTrue(len(setting) == 1 and is_fraction(setting[0]))
        self.same(nearness_of(ALONE, ((),), (), ((LONG, 1),)), (0, 1))

    def test_without_a_nearness(self):
        for fears in (((),), (("a",), ("b",)), (("a", "b"),)):
            self.assertIsNone(nearest(TWO, fears, ()))
            self.assertIsNone(best_setting(TWO, fears, ()))
            self.assertIsNone(nearness_of(TWO, fears, (), ((0, 1), (1, 2))))
        self.assertIsNone(nearest(PAIRS, ((),), (("a", "b", 0, 0), ("c", "d", 0, 0))))

    def test_never_less_than_nothing(self):
        self.same(nearest(STIFF, ((),), (("a", "b", 0, 3),)), (0, 1))
        self.same(nearest(TWO, (("a",),), SPLIT), (0, 1))
        self.same(nearness_of(STIFF, ((),), (("a", "b", 0, 3),), ((0, 1), (3, 1))), (0, 1))
        self.same(nearness_of(STIFF, ((),), (("a", "b", 0, 3),), ((0, 1), (5, 2))), (1, 2))
        self.same(nearness_of(STIFF, ((),), (("a", "b", 0, 3),), ((0, 1), (7, 2))), (1, 2))

    def test_many_digits(self):
        run = (("a", "b", -SIXTY, SIXTY),)
        self.same(nearest(TWO, ((),), run), (1, 1))
        self.same(nearness_of(TWO, ((),), run, ((0, 1), (0, 1))), (2 * SIXTY, 1))
        self.same(nearness_of(TWO, ((),), run, ((1, LONG), (0, 1))), (2 * SIXTY * LONG + 1, LONG))
        setting = best_setting(TWO, ((),), run)
        self.assertEqual(Fraction(*setting[1]) - Fraction(*setting[0]), 2 * SIXTY - 1)

    def test_against_all_circles(self):
        halves, nothing = 0, 0
        for town, fears, run, rows in told_cases(420, 250):
            found = nearest(town, fears, run)
            if None in [row[2] for row in rows]:
                nothing += 1
                self.assertIsNone(found)
                self.assertIsNone(best_setting(town, fears, run))
                self.assertIsNone(nearness_of(town, fears, run, ((0, 1),) * len(town[0])))
                continue
            self.same(found, as_pair(least_by(town, rows)))
            halves += found[1] > 1
            setting = best_setting(town, fears, run)
            self.assertIs(type(setting), tuple)
            self.assertEqual([is_fraction(one) for one in setting], [True] * len(town[0]))
            self.same(nearness_of(town, fears, run, setting), found)
            self.assertEqual(as_pair(plain_nearness(town[0], rows, setting)), found)
        self.assertGreater(min(halves, nothing), 10)

    def test_five_towers(self):
        for town, fears, run, rows in near_cases(421, 20, (5,), 14):
            self.same(nearest(town, fears, run), as_pair(least_by(town, rows)))
            self.same(nearness_of(town, fears, run, best_setting(town, fears, run)), nearest(town, fears, run))

    def test_no_setting_is_nearer(self):
        chance = random.Random(422)
        for town, fears, run, rows in near_cases(422, 60):
            least = Fraction(*nearest(town, fears, run))
            best = [Fraction(*one) for one in best_setting(town, fears, run)]
            for _ in range(40):
                moved = [one + Fraction(chance.randint(-3, 3), chance.randint(1, 4)) for one in best]
                setting = tuple(as_pair(one) for one in moved)
                found = nearness_of(town, fears, run, setting)
                self.assertEqual(found, as_pair(plain_nearness(town[0], rows, setting)))
                self.assertGreaterEqual(Fraction(*found), least)

    def test_nearness_by_all_gains(self):
        chance = random.Random(423)
        for town, fears, run, _ in near_cases(423, 60, (2, 3), 6):
            setting = tuple(as_pair(Fraction(chance.randint(-6, 6), chance.randint(1, 3))) for _ in town[0])
            taken = dict(zip(town[0], [Fraction(*one) for one in setting]))
            worst = Fraction(0)
            for lot in suspects(town, fears, run):
                left = [tower for tower in town[0] if tower not in lot]
                for rest in itertools.product(range(-16, 17), repeat=len(left) - 1) if left else ():
                    if plainly_fit(town, run, lot, (0, *rest)):
                        remains = [gain - taken[tower] for tower, gain in zip(left, (0, *rest))]
                        worst = max(worst, max(remains) - min(remains))
            self.same(nearness_of(town, fears, run, setting), as_pair(worst))

    def test_settings_that_are_none(self):
        for setting in (None, True, 0, "", (), ((0, 1),), ((0, 1),) * 3, [(0, 1), (0, 1)], ((0, 1), (2, 2)),
                        ((0, 1), (0, 2)), ((0, 1), (1, 0)), ((0, 1), (1, -1)), ((0, 1), (True, 1)), ((0, 1), (0, True)),
                        ((0, 1), [0, 1]), ((0, 1), 0), ((0, 1), None), ((0, 1), (0, 1, 1)), (0, 1)):
            self.not_usable("setting", -1, nearness_of, TWO, ((),), MET, setting)
            self.not_usable("setting", -1, nearness_of, TWO, ((),), SPLIT, setting)
        self.not_usable("run", -1, nearness_of, TWO, ((),), SPLIT, ((0, 1), (0, 1)))

    def test_by_name(self):
        told = {"run": MET, "fears": ((),), "town": TWO}
        self.same(nearest(**told), (1, 1))
        self.same(best_setting(**told), best_setting(TWO, ((),), MET))
        self.same(nearness_of(setting=((0, 1), (-1, 2)), **told), (3, 2))
        self.same(worst_circle(**told), worst_circle(TWO, ((),), MET))
        self.same(room_between(other="b", one="a", **told), ((0, 1), (0, 1)))


class Circles(Case):
    def test_worst_circles(self):
        lengths = {0: 0, 2: 0, 3: 0, 4: 0}
        parted = [(*case, plain_reaches(*case)) for case in parted_inquests(2, 300, (4,))]
        for town, fears, run, rows in told_cases(430, 100) + parted:
            found = worst_circle(town, fears, run)
            if None in [row[2] for row in rows]:
                self.assertIsNone(found)
                continue
            means, least = plain_means(town[0], rows), least_by(town, rows)
            self.assertIs(type(found), tuple)
            lengths[len(found)] += 1
            if least in means.values():
                self.assertEqual(means[found], least)
            else:
                self.same(found, ())
                self.assertEqual(least, 0)
        self.assertGreater(min(lengths.values()), 2, lengths)

    def test_a_mean_of_nothing(self):
        self.assertIn(worst_circle(STIFF, ((),), (("a", "b", 0, 3),)), (("a", "b"), ("b", "a")))
        self.same(worst_circle(TWO, (("a",),), SPLIT), ())
        self.same(worst_circle(ALONE, ((),), ()), ())
        self.assertIsNone(worst_circle(TWO, ((),), ()))

    def test_two_towers(self):
        self.assertIn(worst_circle(TWO, ((),), MET), (("a", "b"), ("b", "a")))
        self.same(room_between(TWO, ((),), MET, "a", "b"), ((0, 1), (0, 1)))

    def test_rooms(self):
        wide, none = 0, 0
        for town, fears, run, rows in told_cases(431, 150):
            far = None in [row[2] for row in rows]
            least = None if far else least_by(town, rows)
            for one, other in itertools.permutations(town[0], 2):
                room = room_between(town, fears, run, one, other)
                if far:
                    self.assertIsNone(room)
                    continue
                there = sums_to(town[0], rows, least, one)
                back = sums_to(town[0], rows, least, other)
                if other not in there:
                    none += 1
                    self.same(room, (None, None))
                    continue
                self.same(room, (as_pair(-there[other]), as_pair(back[one])))
                wide += room[0] != room[1]
                self.look_at(town, rows, least, (one, other), room)
        self.assertGreater(min(wide, none), 5)

    def look_at(self, town, rows, least, ends, room):
        """There are settings at both ends of the room, and no nearer ones beyond."""
        for start, end, most in ((ends[0], ends[1], -Fraction(*room[0])), (ends[1], ends[0], Fraction(*room[1]))):
            sums = sums_to(town[0], rows, least, start)
            free = [tower for tower in town[0] if tower not in sums]
            if free:
                continue
            setting = [as_pair(-sums[tower]) for tower in town[0]]
            self.assertEqual(plain_nearness(town[0], rows, setting), least)
            self.assertEqual(sums[end], most)

    def test_best_settings_keep_to_the_room(self):
        for town, fears, run, _ in near_cases(432, 60):
            taken = dict(zip(town[0], [Fraction(*one) for one in best_setting(town, fears, run)]))
            for one, other in itertools.permutations(town[0], 2):
                low, high = room_between(town, fears, run, one, other)
                if low is not None:
                    self.assertTrue(Fraction(*low) <= taken[other] - taken[one] <= Fraction(*high))

    def test_rooms_over_others(self):
        # No suspect leaves a and b, but by c both are tied to one another in settings that do best.
        fears, run = (("a",), ("b",)), SPLIT + (("a", "c", 0, 0), ("b", "c", 0, 0))
        self.same(reaches(RING, fears, run), (("a", "c", 0), ("b", "c", 0), ("c", "a", 2), ("c", "b", 2)))
        self.same(room_between(RING, fears, run, "a", "b"), ((0, 1), (0, 1)))
        self.same(room_between(RING, fears, run, "c", "b"), ((1, 1), (1, 1)))
        self.same(room_between(TWO, (("b",),), SPLIT, "b", "a"), (None, None))

    def test_wide_room(self):
        town = (("a", "b", "c"), (("a", "b", 0, 4), ("b", "c", 0, 1)))
        run = (("a", "b", 0, 4), ("b", "c", 0, 1))
        self.same(nearest(town, ((),), run), (5, 2))
        self.same(room_between(town, ((),), run, "a", "c"), ((5, 2), (5, 2)))
        self.same(room_between(town, ((),), run, "a", "b"), ((3, 2), (5, 2)))
        self.same(room_between(town, ((),), run, "b", "a"), ((-5, 2), (-3, 2)))
        self.same(room_between(town, ((),), run, "b", "c"), ((0, 1), (1, 1)))


class Consequences(Case):
    def test_nearest(self):
        for town, fears, run, rows in near_cases(440, 100):
            top, bottom = nearest(town, fears, run)
            self.assertTrue([k for k in range(1, len(town[0]) + 1) if k % bottom == 0])
            self.assertGreaterEqual(top, 0)
            self.same(rows, reaches(town, fears, run))

    def test_the_same_added(self):
        chance = random.Random(441)
        for town, fears, run, _ in told_cases(441, 60):
            setting = [Fraction(chance.randint(-9, 9), chance.randint(1, 9)) for _ in town[0]]
            more = Fraction(chance.randint(-99, 99), chance.randint(1, 99))
            told = tuple(as_pair(one) for one in setting), tuple(as_pair(one + more) for one in setting)
            self.same(nearness_of(town, fears, run, told[0]), nearness_of(town, fears, run, told[1]))

    def test_no_room_on_a_worst_circle(self):
        for town, fears, run, rows in near_cases(442, 60):
            least = least_by(town, rows)
            for circle, mean in plain_means(town[0], rows).items():
                if mean == least:
                    for one, other in itertools.permutations(circle, 2):
                        low, high = room_between(town, fears, run, one, other)
                        self.same(low, high)

    def test_asking_twice(self):
        for call in (nearest, best_setting, worst_circle, reaches):
            self.same(call(RING, EACH, ODD), call(RING, EACH, ODD))
