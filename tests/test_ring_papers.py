"""Points [45] and [46]: papers by which no setting is nearer."""

import random
from fractions import Fraction

from nearhours.ringchecker import lets_ring
from nearhours.ringpapers import ring_paper
from nearhours.settings import nearest, nearness_of
from nearhours.suspects import suspects
from nearhours.worlds import some_gains
from tests.support import (
    ALONE, EACH, LONG, ODD, ODDITIES, RING, TWO, Case, as_pair, explained_inquests, parted_inquests, plain_feared,
    plainly_fit,
)

MET = (("a", "b", 5, 6),)
SPLIT = (("a", "b", 0, 0), ("a", "b", 0, 3))
FAR = ("far", "a", "b", (), (0, 0), ("b",))
STEPS = (("a", ("b",), (0, 7)), ("c", ("b",), (5, 0)))
# What steps of ODD tell that are right: from a to c 7, from c to a -5.
GOOD = (("a", ("b",), (0, 7)), ("c", ("b",), (0, 5)))


class Papers(Case):
    def test_they_are_accepted(self):
        far, near, nothing = 0, 0, 0
        for town, fears, run in explained_inquests(45, 200, (1, 2, 3, 4), 9) + parted_inquests(46, 40):
            found = nearest(town, fears, run)
            paper = ring_paper(town, fears, run)
            self.same(lets_ring(town, fears, run, paper), found)
            self.assertIs(type(paper), tuple)
            far, near = far + (found is None), near + (found is not None)
            nothing += found == (0, 1)
        self.assertGreater(min(far, near, nothing), 10)

    def test_edges(self):
        self.same(ring_paper(ALONE, ((),), ()), ("circle", ()))
        self.same(ring_paper(town=TWO, fears=(("a",),), run=SPLIT), ("circle", ()))
        self.same(lets_ring(ALONE, ((),), (), ("circle", ())), (0, 1))
        self.same(lets_ring(town=TWO, fears=((),), run=(), thing=("circle", ())), (0, 1))
        stiff = (("a", "b"), (("a", "b", 0, 0),))
        self.same(lets_ring(stiff, ((),), MET, ring_paper(stiff, ((),), MET)), (0, 1))
        self.assertIsNone(lets_ring(TWO, ((),), (), FAR))
        self.assertIsNone(lets_ring(TWO, ((),), (), ("far", "b", "a", (), (LONG, 0), ("a",))))
        self.same(ring_paper(RING, ((),), (("a", "b", 0, 0),))[:4], ("far", "a", "c", ()))

    def test_any_right_one(self):
        self.same(lets_ring(RING, EACH, ODD, ("circle", GOOD)), (1, 1))
        self.same(lets_ring(RING, EACH, ODD, ("circle", GOOD[::-1])), (1, 1))
        self.same(lets_ring(RING, EACH, ODD, ("circle", (GOOD[0], ("c", ("b",), (0, 7))))), (0, 1))
        less = (("a", ("b",), (0, 5)), ("c", ("b",), (0, 6)))
        self.same(lets_ring(RING, EACH, ODD, ("circle", less)), (0, 1))
        three = (("a", ("b",), (0, 7)), ("c", ("a",), (1, 0)), ("b", ("c",), (1, 0)))
        self.same(lets_ring(RING, EACH, ODD, ("circle", three)), (3, 1))
        self.same(lets_ring(RING, EACH, ODD, ("circle", (three[0], ("c", ("a",), (0, 0)), three[2]))), (8, 3))
        long = (("a", (), (0, LONG)), ("b", (), (-LONG, 1)))
        self.same(lets_ring(TWO, ((),), (), ("circle", long)), (0, 1))
        self.same(lets_ring(TWO, ((),), (), ("circle", (long[0], ("b", (), (LONG, 1))))), (2 * LONG - 1, 2))

    def test_papers_made_otherwise(self):
        chance = random.Random(47)
        right = 0
        for town, fears, run in explained_inquests(48, 150, (2, 3), 5) + parted_inquests(49, 60, (3,)):
            found = nearest(town, fears, run)
            for _ in range(12):
                towers = chance.sample(town[0], chance.randint(2, len(town[0])))
                steps = [self.some_step(chance, town, fears, run, tower) for tower in towers]
                try:
                    told = lets_ring(town, fears, run, ("circle", tuple(steps)))
                except ValueError:
                    continue
                right += 1
                self.assertTrue(found is None or Fraction(*told) <= Fraction(*found))
                setting = tuple(as_pair(Fraction(chance.randint(-4, 4), 2)) for _ in town[0])
                nearness = nearness_of(town, fears, run, setting)
                self.assertTrue(nearness is None or Fraction(*told) <= Fraction(*nearness))
        self.assertGreater(right, 100)

    def some_step(self, chance, town, fears, run, tower):
        """A step with a lot and gains that are right more often than not."""
        lot = chance.choice(suspects(town, fears, run))
        gains = some_gains(town, run, lot)
        if chance.random() < 0.6:
            moved = tuple(gain + chance.randint(-1, 1) for gain in gains)
            gains = moved if plainly_fit(town, run, lot, moved) else gains
        return tower, lot, gains

    def test_far_papers_made_otherwise(self):
        right = 0
        for town, fears, run in explained_inquests(50, 120, (2, 3), 3):
            for lot in plain_feared(fears):
                gains = some_gains(town, run, lot)
                left = [tower for tower in town[0] if tower not in lot]
                for part in [(tower,) for tower in left] + [tuple(left[:2])]:
                    paper = ("far", left[0] if left else "a", left[-1] if left else "a", lot, gains, part)
                    try:
                        self.assertIsNone(lets_ring(town, fears, run, paper))
                    except ValueError:
                        continue
                    right += 1
                    self.assertIsNone(nearest(town, fears, run))
        self.assertGreater(right, 20)


class Checker(Case):
    def refused(self, word, at, thing, town=RING, fears=EACH, run=ODD):
        self.invalid(word, at, lets_ring, town, fears, run, thing)

    def test_shape(self):
        for thing in ODDITIES:
            self.refused("shape", -1, thing)
        for thing in (("circle",), ("circle", ()) * 2, ["circle", ()], ("circle", []), ("circle", None), (None, ()),
                      ("ring", ()), (["circle"], ()), FAR[:5], FAR + (0,), list(FAR), ("circle",) + FAR[1:],
                      (None,) + FAR[1:], ("far", ()), (True, ())):
            self.refused("shape", -1, thing)

    def test_many(self):
        for step in (GOOD[0], None, ()):
            self.refused("many", -1, ("circle", (step,)))
        self.refused("many", -1, ("circle", (("a", (), (0,)),)), ALONE, ((),), ())

    def test_step(self):
        for step in (None, True, 0, "abc", (), GOOD[0][:2], GOOD[0] + (0,), list(GOOD[0]), ("z", ("b",), (0, 7)),
                     (0, ("b",), (0, 7)), (["a"], ("b",), (0, 7)), ("a", "b", (0, 7)), ("a", ["b"], (0, 7)),
                     ("a", ("z",), (0, 7)), ("a", ("c", "b"), (0,)), ("a", None, (0, 7)), ("a", ("b",), [0, 7]),
                     ("a", ("b",), None), (True, ("b",), (0, 7))):
            self.refused("step", 0, ("circle", (step, GOOD[1])))
            self.refused("step", 1, ("circle", (GOOD[1], step, None)))

    def test_twice(self):
        self.refused("twice", 1, ("circle", (GOOD[0], GOOD[0])))
        self.refused("twice", 1, ("circle", (GOOD[0], ("a", (), ()), None)))
        self.refused("twice", 2, ("circle", GOOD + (GOOD[0], None)))
        self.refused("twice", 2, ("circle", GOOD + (GOOD[1],)))

    def test_lot(self):
        for lot in (("a",), ("c",), ("a", "c"), ("a", "b"), ("a", "b", "c")):
            self.refused("lot", 0, ("circle", (("a", lot, (0, 7)), GOOD[1])))
            self.refused("lot", 1, ("circle", (GOOD[0], ("c", lot, ()))))
        self.refused("lot", 0, ("circle", GOOD), RING, (("a",), ("c",)))
        three = (("a", ("b",), (0, 7)), ("c", ("b",), (0, 5)), ("b", ("c",), (1, 0)))
        self.refused("lot", 1, ("circle", three))

    def test_gains(self):
        for gains in ((), (0,), (0, 7, 0), (0, True), (0, None), (0, 8), (0, 4), ("0", 7), ((0,), 7)):
            self.refused("gains", 0, ("circle", (("a", ("b",), gains), GOOD[1])))
            self.refused("gains", 1, ("circle", (GOOD[0], ("c", ("b",), gains))))
        self.refused("gains", 0, ("circle", (("a", (), (0, 0, 7)), GOOD[1])))

    def test_far(self):
        told = {"town": TWO, "fears": (("b",),), "run": ()}
        for one in (None, True, 0, "", "z", ["a"], ("a",)):
            self.refused("one", -1, ("far", one, None, None, None, None), **told)
        for other in (None, True, 0, "", "z", ["b"], ("b",), "a"):
            self.refused("other", -1, ("far", "a", other, None, None, None), **told)
        for lot in (None, True, 0, "b", ["b"], ("z",), ("b", "a"), ("a",), ("b",), ("a", "b")):
            self.refused("lot", -1, ("far", "a", "b", lot, None, None), **told)
        for gains in (None, True, (), (0,), [0, 0], (0, True), (0, 0, 0), (0, "0")):
            self.refused("gains", -1, ("far", "a", "b", (), gains, None), **told)
        for part in (None, True, 0, "b", ["b"], (), ("a",), ("a", "b"), ("b", "b"), ("b", "z"), (1,), ("z",)):
            self.refused("part", -1, ("far", "a", "b", (), (0, 0), part), **told)
        self.assertIsNone(lets_ring(thing=FAR, **told))

    def test_far_with_others(self):
        run = (("a", "b", 0, 0), ("c", "b", 9, 9), ("c", "a", 0, 0), ("b", "a", 0, 0))
        self.refused("lot", -1, ("far", "a", "b", ("c",), (0, 0), ("b",)), RING, (("a", "b"),), ODD[:1])
        self.refused("part", -1, ("far", "a", "b", ("c",), (0, 0), ("b", "c")), RING, EACH, ())
        self.refused("letter", 0, ("far", "a", "b", ("c",), (0, 0), ("b",)), RING, EACH, run)
        self.refused("letter", 1, ("far", "a", "b", (), (0, 0, 0), ("b",)), RING, EACH, (run[2], run[1], run[0]))
        self.refused("letter", 2, ("far", "a", "b", ("c",), (0, 0), ("b",)), RING, EACH, (run[2], run[1], run[3]))
        self.refused("letter", 0, ("far", "a", "b", (), (0, 0, 0), ("b", "c")), RING, EACH, (run[2], run[1]))
        self.refused("gains", -1, ("far", "a", "b", ("c",), (0, 9), ("b",)), RING, EACH, run)
        self.assertIsNone(lets_ring(RING, EACH, run[1:3], ("far", "a", "b", ("c",), (0, 9), ("b",))))
        self.assertIsNone(lets_ring(RING, EACH, run[1:2], ("far", "a", "b", (), (9, 0, 0), ("b", "c"))))

    def test_the_first_entry_counts(self):
        self.refused("step", 1, ("circle", (("a", ("a",), ()), None)))
        self.refused("twice", 1, ("circle", (("a", ("a",), ()), ("a", ("a",), ()))))
        self.refused("lot", 0, ("circle", (("a", ("a",), ()), ("c", ("b",), ()))))
        self.refused("gains", 0, ("circle", (("a", ("b",), ()), ("c", ("c",), ()))))
        self.refused("step", 2, ("circle", (GOOD[0], GOOD[1], None, GOOD[0])))
        self.refused("many", -1, ("circle", (("a", ("a",), ()),)))
        self.refused("gains", 1, ("circle", STEPS))
