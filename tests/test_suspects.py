"""Points [33], [34] and [38]: who can have lied."""

from nearhours.clashes import clash
from nearhours.fears import feared_lots
from nearhours.liepapers import quarrel_paper
from nearhours.suspects import could_lie, kernel_suspects, least_suspects, surely_lied, suspects
from tests.support import (
    ALONE, EACH, LONG, ODD, RING, TWO, Case, lots_of, plain_feared, plain_suspects, plainly_fit, some_inquests,
)

SPLIT = (("a", "b", 0, 0), ("a", "b", 0, 3))


class Suspects(Case):
    def test_one_tower(self):
        for call, told in ((suspects, ((),)), (least_suspects, ((),)), (kernel_suspects, ((),)), (surely_lied, ()),
                           (could_lie, ())):
            self.same(call(ALONE, ((),), ()), told)
        self.same(suspects(ALONE, (("a",),), ()), ((), ("a",)))
        self.same(could_lie(ALONE, (("a",),), ()), ("a",))

    def test_all_towers_feared(self):
        fears = (("a", "b", "c"),)
        self.same(len(suspects(RING, fears, ODD)), 7)
        self.same(suspects(RING, fears, ())[-1], ("c",))
        self.same(len(suspects(RING, fears, ())), 8)
        self.same(least_suspects(RING, fears, ODD), EACH)
        self.same(kernel_suspects(RING, fears, ODD), EACH)
        self.same(least_suspects(RING, fears, ()), ((),))
        self.same(kernel_suspects(RING, fears, ()), ((),))

    def test_no_suspect(self):
        for call, told in ((suspects, ()), (least_suspects, ()), (kernel_suspects, ()), (could_lie, ()),
                           (surely_lied, ("a", "b"))):
            self.same(call(TWO, ((),), SPLIT), told)
        self.same(surely_lied(RING, (("c",),), SPLIT), ("a", "b", "c"))

    def test_the_same_letter_twice(self):
        self.same(suspects(RING, EACH, ODD * 2), suspects(RING, EACH, ODD))
        self.same(suspects(RING, ((),), ODD[:1] * 9), ((),))

    def test_many_digits(self):
        run = (("a", "b", LONG, -LONG), ("b", "a", -LONG, LONG))
        self.same(suspects(TWO, (("a",),), run), ((), ("a",)))
        self.same(suspects(TWO, (("a",),), run + (("b", "a", -LONG, LONG + 3),)), (("a",),))

    def test_by_name(self):
        for call in (suspects, least_suspects, kernel_suspects, surely_lied, could_lie):
            self.same(call(run=ODD, fears=EACH, town=RING), call(RING, EACH, ODD))

    def test_against_all_rings(self):
        many = 0
        for town, fears, run in some_inquests(33, 250):
            told = plain_suspects(town, fears, run)
            many += len(told) > 1
            self.same(suspects(town, fears, run), told)
            fewest = min(map(len, told), default=0)
            self.same(least_suspects(town, fears, run), tuple(lot for lot in told if len(lot) == fewest))
            kernel = tuple(lot for lot in told if not any(set(other) < set(lot) for other in told))
            self.same(kernel_suspects(town, fears, run), kernel)
            lied = tuple(tower for tower in town[0] if all(tower in lot for lot in told))
            self.same(surely_lied(town, fears, run), lied)
            could = tuple(tower for tower in town[0] if any(tower in lot for lot in told))
            self.same(could_lie(town, fears, run), could)
        self.assertGreater(many, 100)

    def test_against_all_gains(self):
        box = range(-12, 13)
        for town, fears, run in some_inquests(34, 40, (2, 3), 4):
            for lot in plain_feared(fears):
                left = len(town[0]) - len(lot)
                tried = {0: [()], 1: [(0,)], 2: [(0, k) for k in box], 3: [(0, j, k) for j in box for k in box]}[left]
                found = any(plainly_fit(town, run, lot, gains) for gains in tried)
                self.assertIs(lot in suspects(town, fears, run), found)


class Consequences(Case):
    def test_who_is_told(self):
        for town, fears, run in some_inquests(38, 200):
            told = suspects(town, fears, run)
            self.assertIs(() in told, clash(town, run, ()) is None)
            for lot in feared_lots(town, fears):
                if any(set(other) <= set(lot) for other in told):
                    self.assertIn(lot, told)
            towers = {tower for lot in fears if lot in told for tower in lot}
            self.same(could_lie(town, fears, run), tuple(sorted(towers)))
            for tower in town[0]:
                less = [tuple(name for name in lot if name != tower) for lot in fears]
                self.assertIs(tower in surely_lied(town, fears, run), not any(lot in told for lot in less))
            self.assertIs(quarrel_paper(town, fears, run) is not None, told == ())

    def test_more_letters_and_fears(self):
        for town, fears, run in some_inquests(39, 120):
            told = set(suspects(town, fears, run))
            if run:
                self.assertLessEqual(told, set(suspects(town, fears, run[:-1])))
            for lot in lots_of(town[0]):
                more = tuple(sorted({*fears, lot}))
                self.assertLessEqual(told, set(suspects(town, more, run)))

    def test_towers_without_letters(self):
        for town, fears, run in some_inquests(40, 120, (3, 4), 3):
            for lot in kernel_suspects(town, fears, run):
                for tower in lot:
                    self.assertTrue([1 for letter in run if tower in letter[:2]])
