"""Points [40] and [41], (O1): reaches."""

import itertools

from nearhours.reaching import reach, reaches
from nearhours.suspects import suspects
from nearhours.worlds import does_explain
from tests.support import (
    ALONE, EACH, LONG, ODD, RING, WAY, Case, all_chains, explained_inquests, lots_of, plain_reaches, plain_ties,
    plainly_fit,
)

SPLIT = (("a", "b", 0, 0), ("a", "b", 0, 3))


class Reaches(Case):
    def test_one_tower(self):
        self.same(reaches(ALONE, ((),), ()), ())
        self.same(reaches(ALONE, (("a",),), ()), ())

    def test_no_letters(self):
        told = tuple((*pair, None) for pair in itertools.permutations("abc", 2))
        self.same(reaches(RING, ((),), ()), told)
        self.same(reaches(RING, EACH, ()), told)
        self.same(reaches(RING, (("a", "b", "c"),), ()), told)
        self.assertIsNone(reach(RING, EACH, (), "c", "a"))

    def test_all_towers_feared(self):
        fears = (("a", "b", "c"),)
        told = {pair[:2]: pair[2] for pair in reaches(RING, fears, ODD)}
        self.same(told, {("a", "b"): 1, ("a", "c"): 7, ("b", "a"): 1, ("b", "c"): 1, ("c", "a"): -5, ("c", "b"): 1})
        self.same(reaches(RING, fears, ODD + SPLIT)[0], ("a", "c", 7))

    def test_some_are_not_told(self):
        fears = (("a",), ("b",))
        run = SPLIT + (("b", "c", 0, 0),)
        self.same(reaches(RING, fears, run), (("a", "c", None), ("b", "c", 0), ("c", "a", None), ("c", "b", 2)))
        self.not_usable("other", "b", reach, RING, fears, run, "a", "b")
        self.not_usable("other", "a", reach, RING, fears, run, "b", "a")
        self.same(reach(RING, fears, run, "c", "b"), 2)

    def test_the_same_letter_twice(self):
        self.same(reaches(RING, EACH, ODD * 3), reaches(RING, EACH, ODD))

    def test_less_than_nothing(self):
        self.same(reaches(WAY, ((),), (("a", "b", 0, 4),)),
                  (("a", "b", 3), ("a", "c", None), ("b", "a", -3), ("b", "c", None), ("c", "a", None),
                   ("c", "b", None)))

    def test_many_digits(self):
        run = (("a", "b", -LONG, LONG), ("c", "b", LONG, 5), ("a", "c", 0, 3 * LONG - 5))
        self.same(reach(RING, ((),), run, "a", "b"), 2 * LONG)
        self.same(reach(RING, (("b",),), run, "c", "a"), 2 - 3 * LONG + 5)

    def test_by_name(self):
        self.same(reach(other="c", one="a", run=ODD, fears=EACH, town=RING), 7)
        self.same(reaches(run=ODD, fears=EACH, town=RING), reaches(RING, EACH, ODD))

    def test_against_all_chains(self):
        nothing, negative, missing = 0, 0, 0
        for town, fears, run in explained_inquests(400, 300, (1, 2, 3, 4), 9):
            told = plain_reaches(town, fears, run)
            self.same(reaches(town, fears, run), told)
            found = {row[:2]: row[2] for row in told}
            for one, other in itertools.permutations(town[0], 2):
                if (one, other) in found:
                    self.same(reach(town, fears, run, one, other), found[one, other])
                else:
                    missing += 1
                    self.not_usable("other", other, reach, town, fears, run, one, other)
            nothing += None in found.values()
            negative += any(most is not None and most < 0 for most in found.values())
        self.assertGreater(min(nothing, negative, missing), 20)

    def test_five_towers(self):
        for town, fears, run in explained_inquests(401, 12, (5,), 12):
            self.same(reaches(town, fears, run), plain_reaches(town, fears, run))

    def test_against_all_gains(self):
        for town, fears, run in explained_inquests(402, 50, (2, 3), 5):
            near, wide = all_amounts(town, fears, run, 14), all_amounts(town, fears, run, 16)
            told = reaches(town, fears, run)
            self.assertEqual([row[:2] for row in told], sorted(near))
            for one, other, most in told:
                if most is None:
                    self.assertLess(near[one, other], wide[one, other])
                else:
                    self.assertEqual((near[one, other], wide[one, other]), (most, most))


def all_amounts(town, fears, run, far):
    """By how much the gain of each tower is more than that of each other one, in gains of a box."""
    greatest = {}
    for lot in suspects(town, fears, run):
        left = [tower for tower in town[0] if tower not in lot]
        for rest in itertools.product(range(-far, far + 1), repeat=len(left) - 1) if left else ():
            if plainly_fit(town, run, lot, (0, *rest)):
                gain = dict(zip(left, (0, *rest)))
                for one, other in itertools.permutations(left, 2):
                    amount = gain[other] - gain[one]
                    greatest[one, other] = max(amount, greatest.get((one, other), amount))
    return greatest


class Consequences(Case):
    def test_by_the_lots_told(self):
        for town, fears, run in explained_inquests(410, 60, (2, 3, 4)):
            told = {row[:2]: row[2] for row in reaches(town, fears, run)}
            for one, other in itertools.permutations(town[0], 2):
                bare = [tuple(tower for tower in lot if tower not in (one, other)) for lot in fears]
                lots = [lot for lot in bare if does_explain(town, run, lot)]
                self.assertIs((one, other) in told, bool(lots))
                if not lots:
                    continue
                sums = [[total for _, end, total in all_chains(plain_ties(town, run, lot), one) if end == other]
                        for lot in lots]
                self.same(told[one, other], max(map(min, sums)) if all(sums) else None)

    def test_there_and_back(self):
        for town, fears, run in explained_inquests(411, 120):
            told = {row[:2]: row[2] for row in reaches(town, fears, run)}
            for one, other in told:
                self.assertIn((other, one), told)
                self.assertIs(told[one, other] is None, told[other, one] is None)
                if told[one, other] is not None:
                    self.assertGreaterEqual(told[one, other] + told[other, one], 0)

    def test_more_fears_and_letters(self):
        for town, fears, run in explained_inquests(412, 80):
            told = {row[:2]: row[2] for row in reaches(town, fears, run)}
            for lot in lots_of(town[0]):
                more = {row[:2]: row[2] for row in reaches(town, tuple(sorted({*fears, lot})), run)}
                for ends, most in told.items():
                    self.assertTrue(more[ends] is None or most is not None and more[ends] >= most)
            if run:
                for ends, most in told.items():
                    less = {row[:2]: row[2] for row in reaches(town, fears, run[:-1])}
                    self.assertIn(ends, less)
                    self.assertTrue(less[ends] is None or most is not None and most <= less[ends])
