"""Points [25] to [27]: clashing rings, and papers on whether a lot explains a run."""

from nearhours.clashes import clash
from nearhours.explainchecker import lets_explained
from nearhours.explaining import explain_paper
from nearhours.worlds import do_fit, does_explain
from tests.support import ALONE, LONG, ODD, ODDITIES, RING, TWO, WAY, Case, lots_of, plain_ties, some_cases

TURN = ((0, "b"), (1, "c"), (2, "a"))


class Rings(Case):
    def test_none(self):
        self.assertIsNone(clash(ALONE, (), ()))
        self.assertIsNone(clash(RING, (), ()))
        self.assertIsNone(clash(RING, ODD, ("a",)))
        self.assertIsNone(clash(town=RING, run=ODD, lot=("a", "b", "c")))

    def test_two_letters_on_one_wire(self):
        run = (("b", "a", 0, 0), ("a", "b", 0, 0), ("a", "b", 0, 3))
        self.assertIn(clash(TWO, run, ()), (((1, "b"), (2, "a")), ((2, "a"), (1, "b"))))
        self.assertIsNone(clash(TWO, run[:2], ()))

    def test_a_ring_behind_other_towers(self):
        towers = ("a", "b", "c", "d", "e")
        town = towers, tuple((one, other, 0, 0) for one, other in zip(towers, towers[1:]))
        run = (("a", "b", 0, 0), ("b", "c", 0, 0), ("c", "d", 0, 0), ("d", "e", 0, 0), ("e", "d", 0, 1))
        self.assertEqual({step[0] for step in clash(town, run, ())}, {3, 4})
        self.assertEqual({step[0] for step in clash(town, run[::-1], ("a",))}, {0, 1})

    def test_each_is_one(self):
        for town, run in some_cases(25, 120, (2, 3, 4, 5), 8):
            for lot in lots_of(town[0]):
                ring = clash(town, run, lot)
                self.assertEqual(ring is None, does_explain(town, run, lot))
                self.same(ring, clash(town, run, lot))
                if ring is not None:
                    self.look_at(ring, plain_ties(town, run, lot))

    def look_at(self, ring, ties):
        table = {(k, other): (one, most) for one, other, most, k in ties}
        self.assertIs(type(ring), tuple)
        tower = ring[-1][1]
        for step in ring:
            self.assertIs(type(step), tuple)
            self.assertEqual(table[step][0], tower)
            tower = step[1]
        self.assertLess(sum(table[step][1] for step in ring), 0)


class Papers(Case):
    def test_they_are_accepted(self):
        for town, run in some_cases(26, 120, (1, 2, 3, 4), 6):
            for lot in lots_of(town[0]):
                paper = explain_paper(town, run, lot)
                told = does_explain(town, run, lot)
                self.assertIs(lets_explained(town, run, lot, paper), told)
                self.assertEqual(paper[0], "gains" if told else "ring")
                self.assertIs(type(paper), tuple)
                if told:
                    self.assertTrue(do_fit(town, run, lot, paper[1]))
        self.same(explain_paper(town=TWO, run=(), lot=("a", "b")), ("gains", ()))

    def test_any_right_one(self):
        self.assertIs(lets_explained(town=RING, run=ODD, lot=(), thing=("ring", TURN)), False)
        self.assertIs(lets_explained(RING, ODD, (), ("ring", TURN[1:] + TURN[:1])), False)
        self.assertIs(lets_explained(RING, ODD, (), ("ring", TURN * 5)), False)
        self.assertIs(lets_explained(RING, (), (), ("gains", (LONG, 0, -LONG))), True)
        self.assertIs(lets_explained(RING, ODD, ("a", "b", "c"), ("gains", ())), True)

    def refused(self, word, at, thing, lot=(), run=ODD):
        self.invalid(word, at, lets_explained, RING, run, lot, thing)

    def test_shape(self):
        for thing in ODDITIES:
            self.refused("shape", -1, thing)
        others = (["ring", TURN], ("ring",), ("ring", TURN, ()), ("ring", list(TURN)), ("gains", None),
                  ("gains", [0, 0, 0]), ("rings", TURN), (None, TURN), (["ring"], TURN), ("", ()), (True, ()))
        for thing in others:
            self.refused("shape", -1, thing)

    def test_gains(self):
        for gains in ((), (0, 0), (0, 0, 0, 0), (0, 0, True), (0, None, 0), (0, "0", 0), ([0], 0, 0)):
            self.refused("gains", -1, ("gains", gains))
        self.refused("gains", -1, ("gains", (0,)), ("a",))
        self.refused("gains", -1, ("gains", (0, 0, 0)), ("a",))
        self.refused("gains", -1, ("gains", (0,)), ("a", "b", "c"))

    def test_the_first_letter_that_does_not_fit(self):
        self.refused("letter", 0, ("gains", (9, 0, 0)))
        self.refused("letter", 0, ("gains", (-9, 0, 9)))
        self.refused("letter", 1, ("gains", (0, 0, -9)))
        self.refused("letter", 2, ("gains", (0, 0, 0)))
        self.refused("letter", 1, ("gains", (0, 9)), ("a",))
        self.refused("letter", 2, ("gains", (0, 0)), ("b",))
        self.refused("letter", 1, ("gains", (0, 0, 0)), (), (ODD[0], ODD[2], ODD[2]))

    def test_no_steps(self):
        self.refused("steps", -1, ("ring", ()))
        self.refused("steps", -1, ("ring", ()), (), ())

    def test_step(self):
        wrong = (None, True, 0, "ab", (), (0,), (0, "b", 0), [0, "b"], (True, "c"), (False, "b"), (-1, "a"),
                 (3, "a"), (LONG, "a"), ("0", "b"), (None, "b"), (0, "c"), (0, "z"), (0, 1), (0, True),
                 (0, ["b"]), ([0], "b"), (0, None))
        for step in wrong:
            self.refused("step", 0, ("ring", (step,)))
            self.refused("step", 0, ("ring", (step, None)))
            self.refused("step", 1, ("ring", (TURN[0], step, (2, "c"), None)))
        self.refused("step", 1, ("ring", TURN), ("c",))
        self.refused("step", 0, ("ring", TURN), ("a",))

    def test_from(self):
        self.refused("from", 1, ("ring", (TURN[0], TURN[2])))
        self.refused("from", 1, ("ring", (TURN[0], TURN[0], None)))
        self.refused("from", 2, ("ring", (TURN[0], TURN[1], TURN[1], (9, "z"))))
        self.refused("from", 0, ("ring", (TURN[0],)))
        self.refused("from", 0, ("ring", TURN[:2]))
        self.refused("from", 0, ("ring", ((0, "a"),)))

    def test_sum(self):
        self.refused("sum", -1, ("ring", ((0, "b"), (0, "a"))))
        self.refused("sum", -1, ("ring", ((2, "c"), (1, "b"), (0, "a"))))
        even = (("a", "b", 0, 0), ("a", "b", 0, 2))
        self.invalid("sum", -1, lets_explained, TWO, even, (), ("ring", ((0, "b"), (1, "a"))))
        odd = (("a", "b", 0, 0), ("a", "b", 0, 3))
        self.assertIs(lets_explained(TWO, odd, (), ("ring", ((0, "b"), (1, "a")))), False)

    def test_the_first_entry_counts(self):
        self.refused("shape", -1, ("ring", None))
        self.refused("gains", -1, ("gains", (9, 9)))
        self.refused("from", 1, ("ring", ((0, "a"), (0, "a"), None)))
        self.refused("step", 2, ("ring", (TURN[0], TURN[1], (2, "b"))))
        self.refused("from", 1, ("ring", ((0, "b"), (2, "c"), (0, "c"))))
        self.refused("from", 0, ("ring", ((2, "c"), (1, "b"))))

    def test_equal_bounds(self):
        run = (("a", "b", 0, 1), ("a", "b", 0, 2))
        self.assertIs(lets_explained(WAY, run[:1] * 2, (), ("gains", (0, 0, 0))), True)
        self.assertIs(lets_explained(WAY, run, (), ("ring", ((0, "b"), (1, "a")))), False)
        self.invalid("sum", -1, lets_explained, WAY, run, (), ("ring", ((1, "b"), (0, "a"))))
