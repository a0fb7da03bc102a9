"""Point [55]: papers on whether an event is surely ahead of another one."""

import itertools
import random

from nearhours.claimchecker import lets_claim
from nearhours.claimpapers import claim_paper
from nearhours.events import surely_ahead
from nearhours.worlds import some_gains
from tests.support import (
    EACH, LONG, ODD, ODDITIES, RING, TWO, Case, all_chains, explained_inquests, lots_of, parted_inquests, plain_feared,
    plain_ties, plain_ways, plain_suspects, plainly_fit,
)

MET = (("a", "b", 5, 6),)
SPLIT = (("a", "b", 0, 0), ("a", "b", 0, 3))
THERE = ("chain", ((0, "b"),))
KNOT = ("ring", ((0, "b"), (1, "a")))
TURN = ("ring", ((0, "b"), (1, "c"), (2, "a")))
DOWN = ("chain", ((2, "a"),))
ROWS = (TURN, DOWN, DOWN)
WRONG_EVENTS = (None, True, 0, "a0", (), ("a",), ("a", 0, 0), ["a", 0], ("z", 0), (0, "a"), ("a", True), ("a", None),
                ("a", "0"), (["a"], 0), (True, 0), ("", 0))


def is_so(town, fears, run, early, late):
    """Whether the claim is true, by all suspects and all chains."""
    for lot in plain_suspects(town, fears, run):
        if early[0] not in lot and late[0] not in lot:
            most = plain_ways(town, run, lot).get((early[0], late[0]))
            if most is None or most >= late[1] - early[1]:
                return False
    return True


def some_claims(chance, town, many):
    """Pairs of events of two towers."""
    pairs = list(itertools.permutations(town[0], 2))
    ends = [chance.choice(pairs) for _ in range(many if pairs else 0)]
    return [((one, chance.randint(-6, 6)), (other, chance.randint(-6, 6))) for one, other in ends]


class Papers(Case):
    def test_they_are_accepted(self):
        chance = random.Random(550)
        seen, rings, unbound = {True: 0, False: 0}, 0, 0
        for town, fears, run in explained_inquests(550, 200, (2, 3, 4), 9) + parted_inquests(551, 40):
            for early, late in some_claims(chance, town, 5):
                paper = claim_paper(town, fears, run, early, late)
                told = lets_claim(town, fears, run, early, late, paper)
                self.assertIs(told, surely_ahead(town, fears, run, early, late))
                self.assertIs(told, is_so(town, fears, run, early, late))
                self.assertIs(type(paper), tuple)
                seen[told] += 1
                rings += told and paper[1][0][0] == "ring"
                unbound += not told and (early[0], late[0]) not in plain_ways(town, run, paper[1])
        self.assertGreater(min(*seen.values(), rings, unbound), 20)

    def test_no_suspect_leaves_both(self):
        paper = claim_paper(TWO, (("a",), ("b",)), SPLIT, ("a", LONG), ("b", 0))
        self.same([row[0] for row in paper[1]], ["ring", "ring"])
        self.assertIs(lets_claim(TWO, (("a",), ("b",)), SPLIT, ("a", LONG), ("b", 0), ("sure", (KNOT, KNOT))), True)

    def test_edges(self):
        told = {"town": TWO, "fears": ((),), "run": MET, "early": ("a", 5), "late": ("b", 7)}
        self.same(claim_paper(**told), ("sure", (THERE,)))
        self.assertIs(lets_claim(thing=("sure", (THERE,)), **told), True)
        around = ("chain", ((0, "b"), (0, "a"), (0, "b")))
        self.assertIs(lets_claim(TWO, ((),), MET, ("a", 5), ("b", 9), ("sure", (around,))), True)
        self.assertIs(lets_claim(TWO, ((),), (), ("a", LONG), ("b", 0), ("open", (), (LONG, 0))), False)
        paper = claim_paper(TWO, ((),), (), ("a", -LONG), ("b", LONG))
        self.same(paper[:2], ("open", ()))
        self.assertGreaterEqual(paper[2][1] - paper[2][0], 2 * LONG)

    def test_papers_made_otherwise(self):
        chance = random.Random(552)
        seen = {True: 0, False: 0, None: 0}
        for town, fears, run in explained_inquests(553, 150, (2, 3), 5) + parted_inquests(554, 40, (3,)):
            for early, late in some_claims(chance, town, 3):
                tables = [self.all_rows(town, run, lot, early, late) for lot in fears]
                if all(tables):
                    paper = ("sure", tuple(chance.choice(table) for table in tables))
                    seen[self.judged(town, fears, run, early, late, paper)] += 1
                for lot in plain_feared(fears) + [chance.choice(lots_of(town[0]))]:
                    gains = some_gains(town, run, lot) or tuple(0 for tower in town[0] if tower not in lot)
                    moved = tuple(gain + chance.randint(-1, 1) for gain in gains)
                    seen[self.judged(town, fears, run, early, late, ("open", lot, moved))] += 1
        self.assertGreater(min(seen.values()), 20)

    def all_rows(self, town, run, lot, early, late):
        ties = plain_ties(town, run, [tower for tower in lot if tower not in (early[0], late[0])])
        right = [("chain", steps) for steps, end, _ in all_chains(ties, early[0]) if end == late[0]]
        for tower in town[0]:
            right += [("ring", steps) for steps, end, _ in all_chains(ties, tower) if end == tower]
        return right

    def judged(self, town, fears, run, early, late, paper):
        """What the checker says, which is true if it accepts the paper."""
        try:
            told = lets_claim(town, fears, run, early, late, paper)
        except ValueError:
            return None
        self.assertIs(told, paper[0] == "sure")
        self.assertIs(told, is_so(town, fears, run, early, late))
        if not told:
            self.assertTrue(plainly_fit(town, run, paper[1], paper[2]))
        return told


class Refused(Case):
    def test_events(self):
        for call, more in ((claim_paper, ()), (lets_claim, (None,))):
            for event in WRONG_EVENTS:
                self.not_usable("early", -1, call, TWO, ((),), SPLIT, event, event, *more)
                self.not_usable("late", -1, call, TWO, ((),), SPLIT, ("a", 0), event, *more)
            for hour in (0, 1, LONG):
                self.not_usable("late", -1, call, TWO, ((),), SPLIT, ("a", 0), ("a", hour), *more)
                self.not_usable("late", -1, call, TWO, ((),), MET, ("b", 0), ("b", hour), *more)
            self.not_usable("run", -1, call, TWO, ((),), SPLIT, ("a", 0), ("b", 0), *more)


class Checker(Case):
    def refused(self, word, at, thing, early=("c", 4), late=("a", 0), fears=EACH, run=ODD):
        self.invalid(word, at, lets_claim, RING, fears, run, early, late, thing)

    def test_shape(self):
        for thing in ODDITIES:
            self.refused("shape", -1, thing)
        for thing in (("sure",), ("sure", ROWS, ()), ("sure", list(ROWS)), ("sure", None), ["sure", ROWS], ("open", ()),
                      ("open", ("b",), (0, 6), ()), ["open", ("b",), (0, 6)], (None, ROWS), (["sure"], ROWS), ("open",),
                      ("surely", ROWS), ("sure", ("b",), (0, 6)), (None, ("b",), (0, 6)), (True, ())):
            self.refused("shape", -1, thing)

    def test_many(self):
        for rows in ((), ROWS[:2], ROWS + ROWS[:1], (None,)):
            self.refused("many", -1, ("sure", rows))

    def test_row(self):
        for row in (None, True, 0, "ring", (), ("ring",), ("ring", list(TURN[1])), ("chain", None), ["chain", ()],
                    ("chains", DOWN[1]), (None, ()), (["ring"], ()), ("chain", (), ()), (True, ())):
            self.refused("row", 0, ("sure", (row, None, None)))
            self.refused("row", 2, ("sure", (TURN, DOWN, row)))

    def test_step(self):
        for step in (None, True, 0, "ab", (), (0,), (0, "b", 0), [0, "b"], (True, "b"), (False, "b"), (-1, "a"),
                     (3, "b"), (LONG, "b"), ("0", "b"), (0, "c"), (0, 1), (0, True), (0, ["b"]), ([0], "b")):
            for kind in ("chain", "ring"):
                self.refused("step", (0, 0), ("sure", ((kind, (step,)), None, None)))
            self.refused("step", (2, 1), ("sure", (TURN, DOWN, ("chain", ((2, "a"), step, None)))))

    def test_lot(self):
        for steps in (TURN[1], TURN[1][1:] + TURN[1][:1], TURN[1][2:] + TURN[1][:2]):
            bad = [j for j, (index, _) in enumerate(steps) if "b" in ODD[index][:2]]
            self.refused("lot", (1, bad[0]), ("sure", (TURN, ("ring", steps), DOWN)))
        self.refused("lot", (1, 0), ("sure", (TURN, ("chain", ((1, "b"), (0, "a"))), DOWN)))
        self.refused("lot", (1, 1), ("sure", (TURN, ("chain", ((2, "a"), (0, "b"))), DOWN)))
        self.refused("lot", (1, 1), ("sure", (TURN, ("chain", ((2, "a"), (0, "b"), None)), None)))

    def test_from(self):
        self.refused("from", (0, 0), ("sure", (("chain", ((0, "b"), None)), None, None)))
        self.refused("from", (0, 0), ("sure", (("chain", ((2, "c"),)), None, None)))
        self.refused("from", (0, 1), ("sure", (("chain", ((2, "a"), (2, "a"))), None, None)))
        self.refused("from", (0, 1), ("sure", (("ring", ((0, "b"), (2, "a"))), None, None)))
        self.refused("from", (2, 1), ("sure", (TURN, DOWN, ("ring", ((0, "b"), (0, "b"))))))

    def test_end(self):
        for row in (("chain", ()), ("ring", ()), ("chain", ((1, "b"),)), ("chain", ((2, "a"), (2, "c"))),
                    ("ring", DOWN[1]), ("ring", TURN[1][:2]), ("ring", TURN[1] + TURN[1][:1])):
            self.refused("end", 0, ("sure", (row, None, None)))
            self.refused("end", 2, ("sure", (TURN, DOWN, row)))

    def test_sum(self):
        for row in (("ring", ((0, "b"), (0, "a"))), ("ring", ((2, "c"), (1, "b"), (0, "a"))),
                    ("chain", ((1, "b"), (0, "a")))):
            self.refused("sum", 0, ("sure", (row, None, None)))
            self.refused("sum", 2, ("sure", (TURN, DOWN, row)))
        self.refused("sum", 1, ("sure", ROWS), ("c", 5))
        self.refused("sum", 1, ("sure", ROWS), ("c", 9), ("a", 4))
        self.assertIs(lets_claim(RING, EACH, ODD, ("c", 8), ("a", 4), ("sure", ROWS)), True)
        even = (("a", "b", 0, 0), ("a", "b", 0, 2))
        self.invalid("sum", 0, lets_claim, TWO, ((),), even, ("a", 0), ("b", 99), ("sure", (KNOT,)))

    def test_open(self):
        for lot in (None, True, 0, "b", ["b"], ("z",), ("b", "a"), ("a",), ("c",), ("a", "b"), (1,)):
            self.refused("lot", -1, ("open", lot, None))
            self.refused("lot", -1, ("open", lot, (0, 6)))
        self.refused("lot", -1, ("open", ("b",), (0, 6)), fears=(("a",), ("c",)))
        for gains in (None, True, (), (0,), (0, 0, 0), [0, 6], (0, True), (0, None), (0, "6"), (0, 4), (0, 8)):
            self.refused("gains", -1, ("open", ("b",), gains))
        for gains, early, late in (((0, 5), ("c", 4), ("a", 0)), ((2, 9), ("c", 6), ("a", 0)),
                                   ((0, 7), ("a", 0), ("c", 8))):
            self.refused("ahead", -1, ("open", ("b",), gains), early, late)
        for gains, early, late in (((0, 5), ("c", 5), ("a", 0)), ((0, 7), ("a", 0), ("c", 7)),
                                   ((1, 7), ("a", 0), ("c", 6))):
            self.assertIs(lets_claim(RING, EACH, ODD, early, late, ("open", ("b",), gains)), False)

    def test_the_first_entry_counts(self):
        self.refused("many", -1, ("sure", (None,)))
        self.refused("sum", 0, ("sure", (("ring", ((0, "b"), (0, "a"))), None, None)))
        self.refused("end", 0, ("sure", (("chain", ((1, "b"),)), None, None)))
        self.refused("row", 1, ("sure", (TURN, None, (None, None))))
        self.refused("step", (1, 0), ("sure", (TURN, ("ring", (None, (0, "b"))), DOWN)))
        self.refused("lot", (1, 0), ("sure", (TURN, ("chain", ((0, "b"), None)), DOWN)))
        self.refused("from", (2, 0), ("sure", (TURN, DOWN, ("chain", ((0, "b"), None)))))
        self.refused("gains", -1, ("open", ("b",), (9, 0)))
        self.refused("lot", -1, ("open", ("a",), ()))
