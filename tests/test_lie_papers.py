"""Points [35] and [36]: papers on who lied, and on there being no suspect."""

import itertools
import random

from nearhours.liechecker import lets_lie, lets_quarrel
from nearhours.liepapers import lie_paper, quarrel_paper
from nearhours.suspects import surely_lied, suspects
from tests.support import (
    ALONE, EACH, LONG, ODD, ODDITIES, RING, TWO, Case, all_chains, lots_of, plain_suspects, plain_ties, plainly_fit,
    some_inquests,
)

TURN = ((0, "b"), (1, "c"), (2, "a"))
SPLIT = (("a", "b", 0, 0), ("a", "b", 0, 3))
KNOT = ((0, "b"), (1, "a"))
WRONG_STEPS = (None, True, 0, "ab", (), (0,), (0, "b", 0), [0, "b"], (True, "c"), (False, "b"), (-1, "a"), (3, "a"),
               (LONG, "a"), ("0", "b"), (None, "b"), (0, "c"), (0, "z"), (0, 1), (0, True), (0, ["b"]), ([0], "b"))
WRONG_RINGS = (None, True, 0, "", "ring", (), [], list(TURN), TURN[:2], TURN[:1], TURN[1:], (TURN[0], TURN[2], TURN[1]),
               ((0, "b"), (0, "b")), ((0, "a"),)) + tuple((step,) for step in WRONG_STEPS) + tuple(
                   (TURN[0], step, TURN[2]) for step in WRONG_STEPS)


class Papers(Case):
    def test_they_are_accepted(self):
        sure, cleared, quarrels = 0, 0, 0
        for town, fears, run in some_inquests(35, 250, (2, 3, 4), 10):
            lied = surely_lied(town, fears, run)
            for tower in town[0]:
                paper = lie_paper(town, fears, run, tower)
                self.assertIs(lets_lie(town, fears, run, tower, paper), tower in lied)
                sure, cleared = sure + (tower in lied), cleared + (tower not in lied)
                self.assertIs(type(paper), tuple)
                self.assertEqual(len(paper), 2 if tower in lied else 3)
            paper = quarrel_paper(town, fears, run)
            if suspects(town, fears, run):
                self.assertIsNone(paper)
            else:
                quarrels += 1
                self.assertEqual(lets_quarrel(town, fears, run, paper), len(fears))
        self.assertGreater(min(sure, cleared, quarrels), 20)

    def test_edges(self):
        self.same(lie_paper(ALONE, ((),), (), "a")[:2], ("cleared", ()))
        self.assertIs(lets_lie(ALONE, (("a",),), (), "a", ("cleared", (), (LONG,))), False)
        self.same(lie_paper(TWO, (("a", "b"),), SPLIT, "a")[:2], ("cleared", ("b",)))
        self.assertEqual(lets_quarrel(run=SPLIT, fears=((),), town=TWO, thing=(KNOT,)), 1)
        self.assertEqual(lets_quarrel(TWO, ((),), SPLIT, (KNOT * 3,)), 1)
        self.assertIs(lets_lie(town=TWO, fears=(("a",),), run=SPLIT, tower="a", thing=("sure", (KNOT,))), True)
        self.assertIs(lets_lie(TWO, (("a",),), SPLIT, "a", ("sure", (KNOT,))), True)
        self.same(quarrel_paper(run=SPLIT, town=TWO, fears=(("a",),)), None)
        self.same(lie_paper(run=(), town=TWO, tower="b", fears=(("a",),))[:2], ("cleared", ("a",)))

    def test_papers_made_otherwise(self):
        chance = random.Random(36)
        right = {True: 0, False: 0, None: 0}
        for town, fears, run in some_inquests(37, 150, (2, 3, 4), 5):
            told = plain_suspects(town, fears, run)
            ties = plain_ties(town, run, ())
            rings = [steps for tower in town[0] for steps, end, _ in all_chains(ties, tower) if end == tower]
            for _ in range(25 if rings else 0):
                tower = chance.choice(town[0])
                some = tuple(chance.choice(rings) for _ in fears)
                lot = chance.choice(lots_of(town[0]))
                gains = tuple(chance.randint(-3, 3) for name in town[0] if name not in lot)
                right[self.judged(town, fears, run, tower, ("sure", some), told)] += 1
                right[self.judged(town, fears, run, tower, ("cleared", lot, gains), told)] += 1
                try:
                    lets_quarrel(town, fears, run, some)
                except ValueError:
                    continue
                self.assertEqual(told, ())
        self.assertGreater(min(right.values()), 20)

    def judged(self, town, fears, run, tower, paper, told):
        """What the checker says, which is true if it accepts the paper."""
        try:
            answer = lets_lie(town, fears, run, tower, paper)
        except ValueError:
            return None
        self.assertIs(answer, paper[0] == "sure")
        if answer:
            self.assertTrue(all(tower in lot for lot in told))
        else:
            self.assertIn(paper[1], told)
            self.assertNotIn(tower, paper[1])
            self.assertTrue(plainly_fit(town, run, paper[1], paper[2]))
        return answer

    def test_all_gains_are_taken(self):
        for gains in itertools.product(range(-8, 9), repeat=2):
            call = (lets_lie, RING, EACH, ODD, "a", ("cleared", ("b",), gains))
            if 5 <= gains[1] - gains[0] <= 7:
                self.assertIs(call[0](*call[1:]), False)
            else:
                self.invalid("letter", 2, *call)


class LieChecker(Case):
    def refused(self, word, at, thing, fears=EACH, tower="a", run=ODD):
        self.invalid(word, at, lets_lie, RING, fears, run, tower, thing)

    def test_shape(self):
        for thing in ODDITIES:
            self.refused("shape", -1, thing)
        for thing in (("sure",), ("sure", (), ()), ("sure", []), ("sure", None), ["sure", ()], ("cleared", ()),
                      ("cleared", (), (), ()), ["cleared", ("b",), (0, 6)], (None, ()), (["sure"], ()),
                      ("cleared",), ("surely", ()), ("sure", ("b",), (0, 6)), (None, ("b",), (0, 6)), ("", (), ())):
            self.refused("shape", -1, thing)

    def test_many(self):
        for rings in ((), (TURN,), (TURN, TURN), (TURN,) * 4, (None,), (1, 2)):
            self.refused("many", -1, ("sure", rings))
        self.refused("many", -1, ("sure", ()), (("a",),))
        self.refused("many", -1, ("sure", (TURN, TURN)), (("a",),))

    def test_ring(self):
        for ring in WRONG_RINGS:
            self.refused("ring", 0, ("sure", (ring,)), (("a",),))
            self.refused("ring", 1, ("sure", (TURN, ring, None)), ((), ("a",), ("b",)))

    def test_clear(self):
        self.refused("clear", 0, ("sure", (TURN,)), (("b",),))
        self.refused("clear", 0, ("sure", (TURN,)), (("a", "b"),))
        self.refused("clear", 1, ("sure", (TURN,) * 3), (("a",), ("a", "c"), ("b",)))
        self.assertIs(lets_lie(RING, (("a",),), ODD, "a", ("sure", (TURN,))), True)

    def test_clash(self):
        mild = ((2, "c"), (1, "b"), (0, "a"))
        self.refused("clash", 0, ("sure", (mild,)), (("a",),))
        self.refused("clash", 0, ("sure", (((0, "b"), (0, "a")),)), ((),))
        even = (("a", "b", 0, 0), ("a", "b", 0, 2))
        self.refused("clash", 0, ("sure", (KNOT,)), (("a",),), "a", even)
        self.refused("clash", 1, ("sure", (TURN, mild)), ((), ("a",)))

    def test_lot(self):
        for lot in (None, True, 0, "b", ["b"], [], ("z",), ("b", "a"), ("b", "b"), (1,), ("a",), ("b", "c"),
                    ("a", "b")):
            self.refused("lot", -1, ("cleared", lot, None))
            self.refused("lot", -1, ("cleared", lot, (0, 6)))
        self.refused("lot", -1, ("cleared", ("a",), (0, 0)), (("a", "b"),))
        self.refused("gains", -1, ("cleared", ("b",), None), (("a", "b"),))

    def test_gains(self):
        for gains in (None, True, 0, "", (), (0,), (0, 6, 0), [0, 6], (0, True), (0, None), (0, "6"), ((0,), 6)):
            self.refused("gains", -1, ("cleared", ("b",), gains))
        self.refused("gains", -1, ("cleared", (), (0, 6)))

    def test_letter(self):
        self.refused("letter", 2, ("cleared", ("b",), (0, 8)))
        self.refused("letter", 1, ("cleared", ("b",), (0, 0)), EACH, "a", (ODD[0], ODD[2], ODD[2], ODD[1]))
        self.refused("letter", 0, ("cleared", (), (0, 9, 0)))
        self.refused("letter", 2, ("cleared", (), (0, 0, 0)))

    def test_the_first_entry_counts(self):
        mild = ((2, "c"), (1, "b"), (0, "a"))
        self.refused("many", -1, ("sure", (None,)))
        self.refused("clash", 0, ("sure", (mild, None)), ((), ("a",)))
        self.refused("clear", 0, ("sure", (mild, TURN)), (("b",), ("c",)))
        self.refused("ring", 0, ("sure", (((0, "b"), (0, "b")), TURN)), (("b",), ("c",)))
        self.refused("clear", 0, ("sure", (TURN, None)), (("b",), ("c",)))
        self.refused("lot", -1, ("cleared", ("a",), ()))
        self.refused("gains", -1, ("cleared", ("b",), (9, 9, 9)))


class QuarrelChecker(Case):
    def refused(self, word, at, thing, fears=((),), run=ODD):
        self.invalid(word, at, lets_quarrel, RING, fears, run, thing)

    def test_shape(self):
        for thing in (None, True, 0, "", "ab", [], [TURN], {}):
            self.refused("shape", -1, thing)

    def test_many(self):
        for thing in ((), (TURN, TURN), (None, None)):
            self.refused("many", -1, thing)
        self.refused("many", -1, (TURN,), EACH)

    def test_rings(self):
        for ring in WRONG_RINGS:
            self.refused("ring", 0, (ring,))
            self.refused("ring", 1, (KNOT, ring, None), ((), ("a",), ("c",)), ODD[:1] + (("a", "b", 0, 9),) + ODD[2:])

    def test_clear(self):
        for lot in EACH:
            self.refused("clear", 0, (TURN,), (lot,))
        self.refused("clear", 1, (TURN, TURN), ((), ("a", "c")))

    def test_clash(self):
        self.refused("clash", 0, (((2, "c"), (1, "b"), (0, "a")),))
        self.refused("clash", 0, (KNOT,), ((),), (("a", "b", 0, 0), ("a", "b", 0, 2)))
        self.assertEqual(lets_quarrel(RING, (("c",),), SPLIT, (KNOT,)), 1)

    def test_the_first_entry_counts(self):
        mild = ((2, "c"), (1, "b"), (0, "a"))
        self.refused("many", -1, (None,), EACH)
        self.refused("clear", 0, (mild, None), (("a",), ("b",)))
        self.refused("clash", 0, (mild, None), ((), ("b",)))
        self.refused("ring", 0, (TURN[:2], TURN), (("b",), ("c",)))
