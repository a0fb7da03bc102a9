"""Points [60] to [62] and (O4): letters that break each bound, and papers that there is none."""

import itertools
import random
from fractions import Fraction

from nearhours.boundchecker import lets_unbound
from nearhours.boundpapers import unbound_paper
from nearhours.breaking import breaking_run
from nearhours.parting import is_bounded
from nearhours.runchecker import lets_run
from nearhours.runs import is_full
from nearhours.settings import nearest
from tests.support import (
    ALONE, EACH, LONG, ODDITIES, RING, TWO, Case, as_pair, lots_of, plain_means, plain_reaches, plain_suspects,
)
from tests.test_parting import APART, FOUR, plain_threes, plain_twos, some_doubts

LANE = (("a", "b", "c"), (("a", "b", 0, 2), ("b", "c", 0, 3)))


class BreakingRun(Case):
    def broken(self, town, fears, many):
        """The run is full, some feared lot explains it, and its least nearness is more, or None; tells this."""
        run = breaking_run(town, fears, many)
        self.assertIsInstance(run, tuple)
        self.assertEqual(lets_run(town, run), len(run))
        self.assertLessEqual(len(run), 16)
        self.assertIs(is_full(town, run), True)
        self.assertTrue(plain_suspects(town, fears, run))
        found = nearest(town, fears, run)
        self.assertTrue(found is None or Fraction(*found) > many, (town, fears, many, run))
        return found

    def test_each_number_is_passed(self):
        seen = {}
        for town, fears in some_doubts(600, 300):
            threes, twos = plain_threes(town, fears), plain_twos(town, fears)
            for many in (1, 2, 7, LONG):
                if threes or twos:
                    found = self.broken(town, fears, many)
                    kind = (bool(threes), bool(twos), found is None)
                    seen[kind] = seen.get(kind, 0) + 1
                else:
                    self.assertIsNone(breaking_run(town, fears, many))
        # By three lots alone, by two alone where no tie is left, and by two where one is.
        for kind in ((True, False, False), (False, True, True), (False, True, False)):
            self.assertGreater(seen[kind], 10, seen)

    def test_against_all_circles(self):
        for town, fears in some_doubts(601, 60, (3, 4)):
            if not is_bounded(town, fears):
                run = breaking_run(town, fears, 5)
                rows = plain_reaches(town, fears, run)
                if None not in [most for _, _, most in rows]:
                    worst = max(plain_means(town[0], rows).values())
                    self.assertGreater(worst, 5)
                    self.same(nearest(town, fears, run), as_pair(worst))

    def test_edges(self):
        self.same(breaking_run(ALONE, ((),), 1), None)
        self.same(breaking_run(ALONE, (("a",),), LONG), None)
        self.same(breaking_run(APART, ((),), 3), ())
        self.assertIsNone(self.broken(APART, ((),), 3))
        self.same(breaking_run(APART, (("a",),), 3), ())
        self.same(breaking_run(TWO, ((),), 1), None)
        stiff = (RING[0], tuple((one, other, -4, -4) for one, other, _, _ in RING[1]))
        for many in (1, LONG, 10 ** 200):
            self.broken(stiff, EACH, many)
            self.broken(LANE, (("b",),), many)
            self.broken(FOUR, (("a",), ("b",), ("c", "d")), many)
        self.same(breaking_run(town=RING, fears=EACH[:2], many=7), None)

    def test_two_unlike_lots(self):
        square = (("a", "b", "c", "d"), (("a", "b", 0, 1), ("a", "d", 0, 1), ("b", "c", 0, 1), ("c", "d", 0, 1)))
        fears = (("b",), ("d",))
        self.assertEqual(plain_threes(square, fears), [])
        for many in (1, 30, LONG):
            self.assertIsNotNone(self.broken(square, fears, many))

    def test_many(self):
        for town, fears in ((RING, EACH), (RING, ((),)), (ALONE, ((),))):
            for many in (0, -1, -LONG, True, False, None, "", "1", (), (1,), [1], (1, 1)):
                self.not_usable("many", many, breaking_run, town, fears, many)
        many = [[1]]
        self.assertIs(self.refusal(breaking_run, RING, EACH, many)[1]["at"], many)

    def test_asking_twice(self):
        for town, fears in some_doubts(602, 20):
            self.same(breaking_run(town, fears, 4), breaking_run(fears=fears, many=4, town=town))
            self.same(unbound_paper(town, fears), unbound_paper(fears=fears, town=town))


class Papers(Case):
    def test_they_are_accepted(self):
        seen = {2: 0, 3: 0, None: 0}
        for town, fears in some_doubts(610, 300):
            paper = unbound_paper(town, fears)
            if is_bounded(town, fears):
                self.assertIsNone(paper)
                seen[None] += 1
            else:
                told = lets_unbound(town, fears, paper)
                self.same(told, {"three": 3, "two": 2}[paper[0]])
                seen[told] += 1
        self.assertGreater(min(seen.values()), 20)

    def test_any_right_one(self):
        for lots in itertools.permutations(EACH):
            self.same(lets_unbound(RING, EACH, ("three", lots)), 3)
        self.same(lets_unbound(town=RING, fears=(("a", "b", "c"),), thing=("three", EACH)), 3)
        for one, other in ((("b",), ()), ((), ("b",)), (("b",), ("b",))):
            for part in (("a",), ("c",)):
                self.same(lets_unbound(LANE, (("b",),), ("two", one, other, part)), 2)

    def test_papers_made_otherwise(self):
        chance = random.Random(611)
        seen = {2: 0, 3: 0}
        for town, fears in some_doubts(612, 200, (2, 3, 4)):
            lots = lots_of(town[0])
            threes, twos = plain_threes(town, fears), plain_twos(town, fears)
            for _ in range(40):
                three = tuple(chance.choice(lots) for _ in range(3))
                if chance.random() < 0.7:
                    side = {tower: chance.randint(0, 2) for tower in town[0]}
                    three = tuple(tuple(tower for tower in town[0] if side[tower] == k) for k in range(3))
                two = tuple(chance.choice(lots) for _ in range(3))
                for paper, right in ((("three", three), tuple(sorted(three)) in threes), (("two", *two), two in twos)):
                    try:
                        seen[lets_unbound(town, fears, paper)] += 1
                        self.assertTrue(right)
                        self.assertFalse(is_bounded(town, fears))
                    except ValueError:
                        self.assertFalse(right)
        self.assertGreater(min(seen.values()), 20)


class Checker(Case):
    def refused(self, word, at, thing, town=RING, fears=EACH):
        self.invalid(word, at, lets_unbound, town, fears, thing)

    def test_shape(self):
        for thing in ODDITIES:
            self.refused("shape", -1, thing)
        for thing in (("three",), ("three", EACH, ()), ["three", EACH], ("three", list(EACH)), ("three", EACH[:2]),
                      ("three", EACH * 2), ("three", None), ("two", EACH), ("two", (), ()), ("two", (), (), (), ()),
                      ["two", (), (), ()], (None, (), (), ()), (["two"], (), (), ()), ("three", (), (), ()),
                      (3, EACH), (True, EACH), (["three"], EACH), ("Three", EACH)):
            self.refused("shape", -1, thing)

    def test_three_lot(self):
        for lot in (None, True, 0, "a", [], ["a"], (), ("z",), ("b", "a"), ("a", "a"), (1,), ("a", "b"), (["a"],)):
            self.refused("lot", 0, ("three", (lot, ("b",), ("c",))))
            self.refused("lot", 1, ("three", (("b",), lot, ("c",))))
            self.refused("lot", 2, ("three", (("b",), ("c",), lot)))

    def test_twice(self):
        fears = (("a", "b"), ("b", "c"))
        self.refused("twice", 1, ("three", (("a",), ("a",), ("c",))))
        self.refused("twice", 1, ("three", (("a",), ("a", "b"), ("c",))), RING, fears)
        self.refused("twice", 2, ("three", (("a",), ("b",), ("b", "c"))), RING, fears)
        self.refused("twice", 2, ("three", (("a",), ("b",), ("a",))))

    def test_lacks(self):
        self.refused("lacks", "d", ("three", EACH), FOUR, EACH)
        self.refused("lacks", "a", ("three", (("b",), ("c",), ("d",))), FOUR, (("a",), ("b",), ("c",), ("d",)))
        five = (("a", "b", "c", "d", "e"), ())
        self.refused("lacks", "b", ("three", (("a",), ("c",), ("e",))), five, (("a", "b", "c", "d", "e"),))

    def test_two_lot(self):
        for lot in (None, True, 0, "a", [], ["a"], ("z",), ("b", "a"), ("a", "a"), (1,), ("a", "b")):
            self.refused("lot", 0, ("two", lot, None, None))
            self.refused("lot", 1, ("two", ("a",), lot, None))

    def test_part(self):
        for part in (None, True, 0, "a", [], ["a"], (), ("z",), ("c", "b"), ("b", "b"), (1,), (True,)):
            self.refused("part", -1, ("two", ("a",), (), part))

    def test_in(self):
        self.refused("in", "a", ("two", ("a",), (), ("a",)))
        self.refused("in", "b", ("two", (), ("b",), ("a", "b", "c")))
        self.refused("in", "a", ("two", ("b",), ("a",), ("a", "b")))
        self.refused("in", "b", ("two", ("b",), ("c",), ("a", "b", "c")))

    def test_all(self):
        self.refused("all", -1, ("two", ("a",), ("b",), ("c",)))
        self.refused("all", -1, ("two", (), (), ("a", "b", "c")))
        self.refused("all", -1, ("two", (), (), ("a",)), ALONE, ((),))
        self.refused("all", -1, ("two", (), ("a",), ("b",)), APART, (("a",),))

    def test_wire(self):
        self.refused("wire", 0, ("two", (), (), ("a",)))
        self.refused("wire", 1, ("two", ("b",), (), ("c",)))
        self.refused("wire", 2, ("two", ("a",), (), ("c",)))
        self.refused("wire", 1, ("two", (), (), ("a", "b")), LANE, ((),))
        self.same(lets_unbound(APART, ((),), ("two", (), (), ("b",))), 2)

    def test_the_first_entry_counts(self):
        self.refused("lot", 0, ("three", (("z",), ("b",), ("b",))))
        self.refused("twice", 1, ("three", (("a",), ("a",), ("z",))))
        self.refused("lot", 1, ("three", (("a",), ("a", "b"), ("c",))))
        self.refused("twice", 1, ("three", (("b",), ("b",), ("c",))), FOUR, EACH)
        self.refused("lot", 2, ("three", (("a",), ("b",), ("d",))), FOUR, EACH)
        self.refused("lot", 0, ("two", ("z",), ("z",), ()))
        self.refused("lot", 1, ("two", ("a",), ("z",), ()))
        self.refused("part", -1, ("two", ("a",), ("b",), ("a", "z")))
        self.refused("in", "a", ("two", ("a",), ("b",), ("a", "c")))
        self.refused("all", -1, ("two", ("a",), (), ("b", "c")))
        self.refused("in", "b", ("two", ("b",), (), ("a", "b", "c")))
