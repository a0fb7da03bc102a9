"""Point [47]: papers by which a setting is so near."""

import itertools
import random
from fractions import Fraction

from nearhours.nearchecker import lets_near
from nearhours.nearpapers import near_paper
from nearhours.ringchecker import lets_ring
from nearhours.ringpapers import ring_paper
from nearhours.settings import best_setting, nearest, nearness_of
from tests.support import (
    ALONE, EACH, LONG, ODD, ODDITIES, RING, TWO, Case, all_chains, as_pair, explained_inquests, parted_inquests,
    plain_ties,
)

MET = (("a", "b", 5, 6),)
SPLIT = (("a", "b", 0, 0), ("a", "b", 0, 3))
ZERO = ((0, 1), (0, 1))
THERE, BACK = ("chain", ((0, "b"),)), ("chain", ((0, "a"),))
KNOT = ("ring", ((0, "b"), (1, "a")))


def grounds_for(town, fears, run):
    """For each ground all that could stand there: chains and clashing rings, by the words of [47]."""
    tables = []
    for one, other in itertools.permutations(town[0], 2):
        for lot in fears:
            ties = plain_ties(town, run, [tower for tower in lot if tower not in (one, other)])
            right = [("chain", steps) for steps, end, _ in all_chains(ties, one) if end == other]
            for tower in town[0]:
                rings = [(steps, total) for steps, end, total in all_chains(ties, tower) if end == tower]
                right += [("ring", steps) for steps, total in rings if total < 0]
            tables.append(right)
    return tables


class Papers(Case):
    def test_they_are_accepted(self):
        far, near = 0, 0
        for town, fears, run in explained_inquests(47, 160, (1, 2, 3, 4), 9) + parted_inquests(46, 40):
            found = nearest(town, fears, run)
            paper = near_paper(town, fears, run)
            far, near = far + (found is None), near + (found is not None)
            if found is None:
                self.assertIsNone(paper)
                continue
            self.same(lets_near(town, fears, run, paper), found)
            self.same(lets_near(town, fears, run, paper), lets_ring(town, fears, run, ring_paper(town, fears, run)))
            self.assertEqual([type(part) for part in (paper, *paper[1:])], [tuple] * 3)
            self.same(nearness_of(town, fears, run, paper[1]), found)
        self.assertGreater(min(far, near), 10)

    def test_edges(self):
        self.same(near_paper(ALONE, ((),), ())[2], ())
        self.same(lets_near(ALONE, ((),), (), ("near", ((-5, 3),), ())), (0, 1))
        paper = near_paper(town=TWO, fears=(("a",), ("b",)), run=MET)
        self.same(paper[2], (THERE,) * 2 + (BACK,) * 2)
        self.assertIsNone(near_paper(TWO, ((),), ()))
        self.same(lets_near(town=TWO, fears=(("a",), ("b",)), run=MET, thing=paper), (1, 1))

    def test_no_suspect_with_both(self):
        paper = near_paper(TWO, (("b",),), SPLIT)
        self.assertEqual([ground[0] for ground in paper[2]], ["ring", "ring"])
        self.same(lets_near(TWO, (("b",),), SPLIT, ("near", ((LONG, 1), (0, 1)), (KNOT, KNOT))), (0, 1))

    def test_any_right_one(self):
        self.same(lets_near(TWO, ((),), MET, ("near", ZERO, (THERE, BACK))), (1, 1))
        self.same(lets_near(TWO, ((),), MET, ("near", ((0, 1), (1, 2)), (THERE, BACK))), (3, 2))
        self.same(lets_near(TWO, ((),), MET, ("near", ((1, 3), (0, 1)), (THERE, BACK))), (4, 3))
        around = ("chain", ((0, "b"), (0, "a"), (0, "b")))
        self.same(lets_near(TWO, ((),), MET, ("near", ZERO, (around, BACK))), (3, 1))
        setting = ((LONG, LONG + 1), (0, 1))
        self.same(lets_near(TWO, ((),), MET, ("near", setting, (THERE, BACK))), (2 * LONG + 1, LONG + 1))

    def test_papers_made_otherwise(self):
        chance = random.Random(48)
        right = 0
        for town, fears, run in explained_inquests(49, 150, (2, 3), 5) + parted_inquests(50, 40, (3,)):
            tables = grounds_for(town, fears, run)
            found = nearest(town, fears, run)
            if not all(tables):
                self.assertIsNone(found)
                continue
            for _ in range(4):
                setting = tuple(as_pair(Fraction(chance.randint(-4, 4), 2)) for _ in town[0])
                paper = ("near", setting, tuple(chance.choice(table) for table in tables))
                told = lets_near(town, fears, run, paper)
                right += 1
                self.assertGreaterEqual(Fraction(*told), Fraction(*nearness_of(town, fears, run, setting)))
                bound = lets_ring(town, fears, run, ring_paper(town, fears, run))
                self.assertGreaterEqual(Fraction(*told), Fraction(*bound))
        self.assertGreater(right, 150)

    def test_two_letters_of_each_wire_make_all_reaches(self):
        for town, fears, run in explained_inquests(51, 60, (2, 3), 10):
            ties, kept = plain_ties(town, run, ()), set()
            for one, other in itertools.permutations(town[0], 2):
                between = [tie for tie in ties if tie[:2] == (one, other)]
                if between:
                    kept.add(min(between, key=lambda tie: tie[2])[3])
            less = tuple(run[k] for k in sorted(kept))
            self.same(nearest(town, fears, less), nearest(town, fears, run))


class Checker(Case):
    def refused(self, word, at, thing, town=TWO, fears=((),), run=MET):
        self.invalid(word, at, lets_near, town, fears, run, thing)

    def test_shape(self):
        for thing in ODDITIES:
            self.refused("shape", -1, thing)
        for thing in (("near", ZERO), ("near", ZERO, (THERE, BACK), 0), ["near", ZERO, (THERE, BACK)],
                      ("nearest", ZERO, (THERE, BACK)), (None, ZERO, (THERE, BACK)), ("near", list(ZERO), ()),
                      ("near", None, ()), ("near", ZERO, [THERE, BACK]), ("near", ZERO, None), ("near", "ab", "ab")):
            self.refused("shape", -1, thing)

    def test_setting(self):
        for setting in ((), ZERO[:1], ZERO * 2, (0, 1), ((0, 1), (2, 2)), ((0, 1), (0, 2)), ((0, 1), (1, -1)),
                        ((0, 1), (True, 1)), ((0, 1), [0, 1]), ((0, 1), None)):
            self.refused("setting", -1, ("near", setting, (THERE, BACK)))
            self.refused("setting", -1, ("near", setting, ()))

    def test_many(self):
        for grounds in ((), (THERE,), (THERE, BACK, BACK), (None,)):
            self.refused("many", -1, ("near", ZERO, grounds))
        self.refused("many", -1, ("near", ZERO, (THERE, BACK)), TWO, (("a",), ("b",)))
        self.refused("many", -1, ("near", ((0, 1),), (THERE,)), ALONE, ((),), ())

    def test_ground(self):
        for ground in (None, True, 0, "chain", (), ("chain",), ("chain", [(0, "b")]), ("chain", None), ["chain", ()],
                       ("chains", ((0, "b"),)), (None, ()), (["ring"], ()), ("chain", (), ()), (True, ())):
            self.refused("ground", 0, ("near", ZERO, (ground, None)))
            self.refused("ground", 1, ("near", ZERO, (THERE, ground)))

    def test_step(self):
        for step in (None, True, 0, "ab", (), (0,), (0, "b", 0), [0, "b"], (True, "b"), (False, "b"), (-1, "b"),
                     (1, "b"), (LONG, "b"), ("0", "b"), (0, "c"), (0, 1), (0, True), (0, ["b"]), ([0], "b")):
            for kind in ("chain", "ring"):
                self.refused("step", (0, 0), ("near", ZERO, ((kind, (step,)), None)))
                self.refused("step", (1, 1), ("near", ZERO, (THERE, (kind, ((0, "a"), step, None)))))

    def test_lot(self):
        zero = ((0, 1),) * 3
        right = near_paper(RING, EACH, ODD)[2]
        for k, ends in enumerate([ends for ends in itertools.permutations("abc", 2) for _ in EACH]):
            bare = [tower for tower in EACH[k % 3] if tower not in ends]
            for steps in (((0, "b"), (1, "c"), (2, "a")), ((1, "c"), (2, "a"), (0, "b")),
                          ((2, "a"), (0, "b"), (1, "c"))):
                told = right[:k] + (("ring", steps),) + right[k + 1:]
                bad = [j for j, (index, _) in enumerate(steps) if set(ODD[index][:2]) & set(bare)]
                if bad:
                    self.refused("lot", (k, bad[0]), ("near", zero, told), RING, EACH, ODD)
                else:
                    self.assertIsInstance(lets_near(RING, EACH, ODD, ("near", zero, told)), tuple)
        chain = ("chain", ((2, "c"), (1, "b")))
        self.refused("lot", (2, 0), ("near", zero, right[:2] + (chain,) + right[3:]), RING, EACH, ODD)

    def test_from(self):
        self.refused("from", (0, 0), ("near", ZERO, (BACK, None)))
        self.refused("from", (0, 1), ("near", ZERO, (("chain", ((0, "b"), (0, "b"), None)), BACK)))
        self.refused("from", (1, 0), ("near", ZERO, (THERE, THERE)))
        self.refused("from", (0, 1), ("near", ZERO, (("ring", ((0, "a"), (0, "a"))), BACK)))
        self.refused("from", (0, 2), ("near", ZERO, (("ring", ((0, "a"), (0, "b"), (0, "b"), None)), BACK)))

    def test_end(self):
        for ground in (("chain", ()), ("ring", ()), ("chain", ((0, "b"), (0, "a"))), ("ring", ((0, "b"),)),
                       ("ring", ((0, "a"), (0, "b"), (0, "a")))):
            self.refused("end", 0, ("near", ZERO, (ground, None)))
        for ground in (("chain", ()), ("ring", ()), ("chain", ((0, "a"), (0, "b"))), ("ring", ((0, "b"),))):
            self.refused("end", 1, ("near", ZERO, (THERE, ground)))

    def test_clash(self):
        for steps in (((0, "b"), (0, "a")), ((0, "a"), (0, "b")), ((0, "a"), (0, "b")) * 4):
            self.refused("clash", 0, ("near", ZERO, (("ring", steps), None)))
            self.refused("clash", 1, ("near", ZERO, (THERE, ("ring", steps))))
        even = (("a", "b", 0, 0), ("a", "b", 0, 2))
        self.refused("clash", 0, ("near", ZERO, (KNOT, BACK)), TWO, ((),), even)

    def test_the_first_entry_counts(self):
        self.refused("setting", -1, ("near", (), ()))
        self.refused("many", -1, ("near", ZERO, (None,)))
        self.refused("clash", 0, ("near", ZERO, (("ring", ((0, "b"), (0, "a"))), None)))
        self.refused("step", (0, 1), ("near", ZERO, (("chain", ((0, "b"), None)), None)))
        self.refused("from", (0, 0), ("near", ZERO, (("chain", ((0, "a"), None)), None)))
        zero, right = ((0, 1),) * 3, near_paper(RING, EACH, ODD)[2]
        # This step of (a, b) without c is of a letter to c, and does not go from a.
        ground = ("chain", ((1, "c"), None))
        self.refused("lot", (2, 0), ("near", zero, right[:2] + (ground,) + right[3:]), RING, EACH, ODD)
        self.refused("from", (0, 0), ("near", zero, (ground,) + right[1:]), RING, EACH, ODD)
        self.refused("end", 0, ("near", ZERO, (("ring", ((0, "b"),)), None)))

    def test_best_settings_are_those_of_papers(self):
        self.same(near_paper(RING, EACH, ODD)[1], best_setting(RING, EACH, ODD))
