"""Point [70] and what [73] says of it: papers by which no setting at hours is nearer."""

import itertools
import random
from fractions import Fraction

from nearhours.driftchecker import lets_apart
from nearhours.driftpapers import apart_paper
from nearhours.drifting import nearest_at, nearness_at, setting_at, suspects_at
from tests.support import (
    ALONE, EACH, LONG, ODD, ODDITIES, RING, TWO, Case, as_pair, parted_inquests, plain_events, plain_feared,
    plain_ties_at, some_drifts, some_settings,
)
from tests.test_drifting import FAST, NONE, ONE, STILL, TORN, explained_drifts, is_no_less

GAINS = ((("a", 5, (0, 1)), ("b", 6, (1, 1))), (("a", 5, (1, 1)), ("b", 6, (0, 1))))
STEPS = (("a", (), GAINS[0]), ("b", (), GAINS[1]))
LATER = (("a", 5, (0, 1)), ("a", 15, (-1, 1)), ("b", 6, (1, 1)))


def plainly_fit_at(town, rates, run, lot, hours, rows):
    """Whether gains of events fit, by the words of [66]: each letter, and each two events of one tower."""
    gain = {(tower, hour): Fraction(*one) for tower, hour, one in rows}
    return all(gain[late] - gain[early] <= most for early, late, most, _ in plain_ties_at(town, rates, run, lot, hours))


def some_gains_at(chance, town, rates, run, lot, hours):
    """Gains of the events that fit, by chance; None if none were found."""
    ties = plain_ties_at(town, rates, run, lot, hours)
    gain = {event: Fraction(chance.randint(-3, 3)) for event in plain_events(town, run, lot, hours)}
    for _ in range(len(gain) + 1):
        for early, late, most, _ in ties:
            gain[late] = min(gain[late], gain[early] + most)
    rows = tuple((*event, as_pair(gain[event])) for event in sorted(gain))
    return rows if plainly_fit_at(town, rates, run, lot, hours, rows) else None


class Papers(Case):
    def test_they_are_accepted(self):
        seen = {"none": 0, "nothing": 0, "two": 0, "three": 0}
        cases = explained_drifts(700, 200, (1, 2, 3, 4), 6)
        for k, (town, fears, run) in enumerate(parted_inquests(704, 30)):
            cases.append((town, ((-k, k),) * len(town[0]), fears, run, (k % 7,) * len(town[0])))
        for town, rates, fears, run, hours in cases:
            paper = apart_paper(town, rates, fears, run, hours)
            least = nearest_at(town, rates, fears, run, hours)
            if least is None:
                self.assertIsNone(paper)
                seen["none"] += 1
            else:
                self.assertIs(type(paper), tuple)
                self.same(lets_apart(town, rates, fears, run, hours, paper), least)
                self.same(paper[1], least)
                seen["nothing" if least == (0, 1) else "two" if len(paper[2]) == 2 else "three"] += 1
        self.assertGreater(min(seen.values()), 2, seen)

    def test_all_lots(self):
        rates = ((-10, 10),) * 3
        for hours in ((0, 0, 0), (9, 1, -40)):
            paper = apart_paper(RING, rates, EACH, ODD, hours)
            self.same(lets_apart(RING, rates, EACH, ODD, hours, paper), nearest_at(RING, rates, EACH, ODD, hours))
            self.assertEqual(len(paper[2]), 3)

    def test_edges(self):
        self.same(apart_paper(ALONE, ((-1, 1),), NONE, (), (4,)), ("apart", (0, 1), ()))
        self.same(apart_paper(town=TWO, rates=STILL, fears=(("a",),), run=TORN, hours=(0, 0)), ("apart", (0, 1), ()))
        self.same(apart_paper(TWO, FAST, NONE, (), (0, 0)), None)
        self.not_usable("run", -1, apart_paper, TWO, STILL, NONE, TORN, (0, 0))
        self.not_usable("hours", -1, apart_paper, TWO, STILL, NONE, TORN, (0, 0, 0))
        self.same(lets_apart(town=ALONE, rates=STILL[:1], fears=NONE, run=(), hours=(LONG,), thing=(
            "apart", (0, 1), ())), (0, 1))

    def test_a_run_that_nobody_explains(self):
        self.same(lets_apart(TWO, STILL, NONE, TORN, (0, 0), ("apart", (0, 1), ())), (0, 1))
        self.invalid("mean", -1, lets_apart, TWO, STILL, NONE, TORN, (0, 0), ("apart", (1, 1), ()))
        # By a lot that explains it steps can be told all the same.
        wide = (("a", "b", "c"), (("a", "b", 0, 2),))
        rows = (("b", 0, (0, 1)), ("c", 0, (5, 1)))
        steps = (("b", ("a",), rows), ("c", ("a",), (("b", 0, (3, 1)), ("c", 0, (0, 1)))))
        self.same(lets_apart(wide, ((0, 0),) * 3, (("a",),), TORN, (0, 0, 0), ("apart", (4, 1), steps)), (4, 1))

    def test_any_right_one(self):
        for value in ((0, 1), (1, 3), (999, 1000), (1, 1)):
            self.same(lets_apart(TWO, FAST, NONE, ONE, (5, 6), ("apart", value, STEPS)), value)
            self.same(lets_apart(TWO, FAST, NONE, ONE, (5, 6), ("apart", value, STEPS[::-1])), value)
        thrice = (STEPS + STEPS + STEPS)
        self.same(lets_apart(TWO, FAST, NONE, ONE, (5, 6), ("apart", (1, 1), thrice)), (1, 1))
        less = STEPS + (STEPS[0], ("b", (), (("a", 5, (LONG, 7)), ("b", 6, (LONG, 7)))))
        self.same(lets_apart(TWO, FAST, NONE, ONE, (5, 6), ("apart", (3, 4), less)), (3, 4))
        self.invalid("mean", -1, lets_apart, TWO, FAST, NONE, ONE, (5, 6), ("apart", (4, 5), less))
        later = (("a", (), LATER), ("b", (), (("a", 5, (1, 1)), ("a", 15, (2, 1)), ("b", 6, (0, 1)))))
        self.same(lets_apart(TWO, FAST, NONE, ONE, (15, 6), ("apart", (2, 1), later)), (2, 1))

    def test_means_not_in_least_terms(self):
        flat = (("a", 5, (3, 7)), ("b", 6, (3, 7)))
        steps = STEPS + (("a", (), flat), ("b", (), flat))
        # Two hours over four steps, and two thirds of an hour over two.
        self.same(lets_apart(TWO, FAST, NONE, ONE, (5, 6), ("apart", (1, 2), steps)), (1, 2))
        self.invalid("mean", -1, lets_apart, TWO, FAST, NONE, ONE, (5, 6), ("apart", (1, 2), steps + steps[2:]))
        self.invalid("value", -1, lets_apart, TWO, FAST, NONE, ONE, (5, 6), ("apart", (2, 4), steps))
        thirds = (("a", (), (("a", 5, (1, 3)), ("b", 6, (2, 3)))), ("b", (), (("a", 5, (2, 3)), ("b", 6, (1, 3)))))
        self.same(lets_apart(TWO, FAST, NONE, ONE, (5, 6), ("apart", (1, 3), thirds)), (1, 3))
        self.invalid("mean", -1, lets_apart, TWO, FAST, NONE, ONE, (5, 6), ("apart", (2, 3), thirds))

    def test_a_tower_several_times(self):
        run = (("a", "b", 0, 1), ("b", "c", 0, 1), ("a", "c", 0, 1))
        there = (("a", 0, (0, 1)), ("b", 0, (1, 1)), ("b", 1, (1, 1)), ("c", 0, (1, 1)), ("c", 1, (1, 1)))
        back = (("a", 0, (0, 1)), ("b", 0, (-1, 1)), ("b", 1, (-1, 1)), ("c", 0, (-1, 1)), ("c", 1, (-1, 1)))
        steps = (("a", (), there), ("b", (), back), ("a", (), there), ("c", (), back))
        rates, hours = ((0, 0),) * 3, (0, 0, 0)
        self.same(lets_apart(RING, rates, NONE, run, hours, ("apart", (1, 1), steps)), (1, 1))
        self.same(nearest_at(RING, rates, NONE, run, hours), (1, 1))

    def test_papers_made_otherwise(self):
        chance = random.Random(701)
        right, wrong, more = 0, 0, 0
        for town, rates, fears, run, hours in explained_drifts(702, 120, (2, 2, 3)):
            least = nearest_at(town, rates, fears, run, hours)
            lots = suspects_at(town, rates, fears, run)
            best = setting_at(town, rates, fears, run, hours)
            for _ in range(20):
                towers = [chance.choice(town[0]) for _ in range(chance.choice((2, 2, 3, 4)))]
                steps = tuple(self.some_step(chance, town, rates, run, chance.choice(lots), hours, tower)
                              for tower in towers)
                value = Fraction(chance.choice((0, 0, 1, 2, 4)), chance.choice((1, 2, 3)))
                paper = ("apart", as_pair(value), steps)
                try:
                    told = lets_apart(town, rates, fears, run, hours, paper)
                except ValueError:
                    wrong += 1
                    self.assertFalse(self.is_right(town, rates, fears, run, hours, paper))
                    continue
                right += 1
                more += told != (0, 1)
                self.same(told, paper[1])
                self.assertTrue(self.is_right(town, rates, fears, run, hours, paper))
                self.assertTrue(is_no_less(least, told))
                for setting in some_settings(chance, town[0], best, 2):
                    self.assertTrue(is_no_less(nearness_at(town, rates, fears, run, hours, setting), told))
        self.assertGreater(min(right, wrong), 50)
        self.assertGreater(more, 10)

    def some_step(self, chance, town, rates, run, lot, hours, tower):
        """A step with gains that fit more often than not."""
        rows = some_gains_at(chance, town, rates, run, lot, hours) or ()
        if rows and chance.random() < 0.3:
            k = chance.randrange(len(rows))
            moved = Fraction(*rows[k][2]) + Fraction(chance.randint(-3, 3), chance.choice((1, 3, 1000)))
            rows = rows[:k] + ((*rows[k][:2], as_pair(moved)),) + rows[k + 1:]
        return tower, lot, rows

    def is_right(self, town, rates, fears, run, hours, paper):
        """Whether a paper of right forms is right, by the words of [70]."""
        _, value, steps = paper
        told = []
        for (one, lot, rows), (other, _, _) in zip(steps, steps[1:] + steps[:1]):
            if one == other or one in lot or other in lot or lot not in plain_feared(fears):
                return False
            if [row[:2] for row in rows] != plain_events(town, run, lot, hours):
                return False
            if not plainly_fit_at(town, rates, run, lot, hours, rows):
                return False
            asked = dict(zip(town[0], hours))
            gain = {row[:2]: Fraction(*row[2]) for row in rows}
            told.append(gain[other, asked[other]] - gain[one, asked[one]])
        return Fraction(*value) <= (sum(told) / len(told) if told else 0)

    def test_asking_twice(self):
        for case in explained_drifts(703, 20):
            names = ("town", "rates", "fears", "run", "hours")
            self.same(apart_paper(*case), apart_paper(**dict(reversed(list(zip(names, case))))))


class Checker(Case):
    def refused(self, word, at, thing, hours=(5, 6), rates=FAST, town=TWO, fears=NONE, run=ONE):
        self.invalid(word, at, lets_apart, town, rates, fears, run, hours, thing)

    def test_shape(self):
        for thing in ODDITIES:
            self.refused("shape", -1, thing)
        for thing in (("apart",), ("apart", (0, 1)), ("apart", (0, 1), (), ()), ["apart", (0, 1), ()],
                      ("apart", (0, 1), []), ("apart", (0, 1), None), (None, (0, 1), ()), ("Apart", (0, 1), ()),
                      (["apart"], (0, 1), ()), (("apart",), (0, 1), ()), ("apart", None, "")):
            self.refused("shape", -1, thing)

    def test_value(self):
        for value in (None, True, 0, 1, "0/1", (), (0,), (0, 0), (2, 4), (1, -1), (-1, 1), (-1, 2), [0, 1], (0, 1, 1),
                      (True, 1), (1, True), (0, 2), (False, 1), (0, "1")):
            self.refused("value", -1, ("apart", value, STEPS))
            self.refused("value", -1, ("apart", value, (None,)))

    def test_step(self):
        wrong = (None, True, 0, "abc", (), STEPS[0][:2], STEPS[0] + (0,), list(STEPS[0]), ("z", (), GAINS[0]),
                 (0, (), GAINS[0]), (["a"], (), GAINS[0]), ("a", "", GAINS[0]), ("a", [], GAINS[0]),
                 ("a", ("z",), GAINS[0]), ("a", ("b", "a"), GAINS[0]), ("a", None, GAINS[0]), ("a", (), list(GAINS[0])),
                 ("a", (), None), (True, (), GAINS[0]), ("a", ("a",), GAINS[0]), ("a", ("b",), GAINS[0]))
        for step in wrong:
            self.refused("step", 0, ("apart", (0, 1), (step, STEPS[1])))
        # A step that is none is said of the one ahead, if it does not begin with another tower.
        for step in wrong[:7] + (list(STEPS[1]), ("z", (), GAINS[1]), STEPS[0], ("a", None, None), (["b"], 1, 2)):
            self.refused("step", 0, ("apart", (0, 1), (STEPS[0], step)))
        for step in (("b", None, None), ("b", (), None), ("b", ("z",), ()), ("b", ("a",), GAINS[1]),
                     ("b", ("b",), GAINS[1])):
            self.refused("step", 1, ("apart", (0, 1), (STEPS[0], step)))
            self.refused("step", 1, ("apart", (0, 1), (STEPS[0], step, STEPS[0], None)))

    def test_step_alone(self):
        for step in STEPS + (None,):
            self.refused("step", 0, ("apart", (0, 1), (step,)))
        self.refused("step", 0, ("apart", (0, 1), (("a", (), (("a", 5, (0, 1)),)),)), (5,), STILL[:1], ALONE, NONE, ())

    def test_step_to_the_first(self):
        self.refused("step", 2, ("apart", (0, 1), STEPS + STEPS[:1]))
        self.refused("step", 1, ("apart", (0, 1), (STEPS[0], STEPS[1], STEPS[1], STEPS[0])))

    def test_lots_of_steps(self):
        still, hours = ((0, 0),) * 3, (0, 0, 0)
        rows = (("a", 0, (0, 1)), ("b", 0, (0, 1)))
        for lot in (("a",), ("b",), ("b", "c"), ("a", "c"), ("a", "b", "c")):
            for fears in (EACH, (("a", "b", "c"),)):
                self.refused("step", 0, ("apart", (0, 1), (("a", lot, rows), ("b", ("c",), rows))), hours, still, RING,
                             fears, ())
        self.refused("step", 0, ("apart", (0, 1), (("a", ("c",), rows), ("b", ("c",), rows))), hours, still, RING,
                     EACH[:2], ())
        self.same(lets_apart(RING, still, (("b", "c"),), (), hours, ("apart", (0, 1), (
            ("a", ("c",), rows), ("b", ("c",), rows)))), (0, 1))

    def test_events(self):
        for rows in ((), GAINS[0][:1], GAINS[0][::-1], GAINS[0] + GAINS[0][1:], (None, None), (GAINS[0][0], ("b", 6)),
                     (GAINS[0][0], ("b", 7, (1, 1))), (GAINS[0][0], ("b", 6, 1)), (GAINS[0][0], ("b", 6, (2, 2))),
                     (GAINS[0][0], ["b", 6, (1, 1)]), (GAINS[0][0], ("b", 6, (1, 1), 0)), GAINS[0] + (None,),
                     (("a", 5, (True, 1)), GAINS[0][1]), (("a", 5, None), GAINS[0][1]), (("b", 5, (0, 1)), GAINS[0][1]),
                     (("a", 5, [0, 1]), GAINS[0][1]), LATER):
            self.refused("events", 0, ("apart", (0, 1), (("a", (), rows), STEPS[1])))
            self.refused("events", 1, ("apart", (0, 1), (STEPS[0], ("b", (), rows), STEPS[0], ("b", 0, 0))))
        one = (("a", 1, (0, 1)), ("b", 1, (0, 1)))
        self.same(lets_apart(TWO, FAST, NONE, (), (1, 1), ("apart", (0, 1), (("a", (), one), ("b", (), one)))), (0, 1))
        for rows in ((("a", True, (0, 1)), one[1]), (one[0], ("b", True, (0, 1)))):
            self.refused("events", 0, ("apart", (0, 1), (("a", (), rows), ("b", (), one))), (1, 1), run=())

    def test_events_of_letters_without_the_lot(self):
        run, rates, hours = ODD, ((-1, 1),) * 3, (0, 0, 1)
        events = plain_events(RING, run, ("c",), hours)
        self.assertEqual(events, [("a", 0), ("b", 0), ("b", 1)])
        good = tuple((*event, (0, 1)) for event in events)
        self.same(lets_apart(RING, rates, EACH, run, hours, ("apart", (0, 1), (
            ("a", ("c",), good), ("b", ("c",), good)))), (0, 1))
        more = good + (("c", 1, (0, 1)),)
        self.refused("events", 0, ("apart", (0, 1), (("a", ("c",), more), ("b", ("c",), good))), hours, rates, RING,
                     EACH, run)
        less = good[:1] + good[2:]
        self.refused("events", 1, ("apart", (0, 1), (("a", ("c",), good), ("b", ("c",), less))), hours, rates, RING,
                     EACH, run)

    def test_fit(self):
        for gain in ((1001, 1000), (-1001, 1000), (2, 1), (LONG + 1, LONG)):
            self.refused("fit", 0, ("apart", (0, 1), (("a", (), (GAINS[0][0], ("b", 6, gain))), STEPS[1])))
            self.refused("fit", 1, ("apart", (0, 1), (STEPS[0], ("b", (), (GAINS[1][0], ("b", 6, as_pair(
                1 + Fraction(*gain))))))))
        for gain in ((-1, 1), (-1001, 1000), (1001, 1000), (2, 1)):
            rows = (LATER[0], ("a", 15, gain), LATER[2])
            paper = ("apart", (0, 1), (("a", (), rows), ("b", (), LATER)))
            if gain == (-1, 1):
                self.invalid("fit", 0, lets_apart, TWO, ((-99, 100), (0, 0)), NONE, ONE, (15, 6), paper)
                self.invalid("fit", 0, lets_apart, TWO, ((-200, -101), (0, 0)), NONE, ONE, (15, 6), paper)
                self.same(lets_apart(TWO, ((-100, -100), (0, 0)), NONE, ONE, (15, 6), paper), (0, 1))
            else:
                self.refused("fit", 0, paper, (15, 6))

    def test_mean(self):
        self.refused("mean", -1, ("apart", (1, LONG), ()))
        self.refused("mean", -1, ("apart", (1001, 1000), STEPS))
        self.refused("mean", -1, ("apart", (0, 1), (("a", (), GAINS[1]), ("b", (), GAINS[0]))))
        flat = (("a", 5, (3, 7)), ("b", 6, (3, 7)))
        self.refused("mean", -1, ("apart", (1, 1), (STEPS[0], ("b", (), flat))))
        self.same(lets_apart(TWO, FAST, NONE, ONE, (5, 6), ("apart", (1, 2), (STEPS[0], ("b", (), flat)))), (1, 2))

    def test_the_first_entry_counts(self):
        bad = ("a", (), (GAINS[0][0], ("b", 6, (9, 1))))
        self.refused("fit", 0, ("apart", (9, 1), (bad, ("b", (), ()))))
        self.refused("events", 0, ("apart", (9, 1), (("a", (), ()), ("b", None, None))))
        self.refused("step", 0, ("apart", (9, 1), (bad, None)))
        self.refused("step", 1, ("apart", (9, 1), (STEPS[0], ("b", None, None))))
        self.refused("fit", 2, ("apart", (9, 1), STEPS + (bad, ("b", (), GAINS[1]))))
        self.refused("value", -1, ("apart", (2, 2), (None,)))
        self.refused("events", 1, ("apart", (9, 1), (STEPS[0], ("b", (), GAINS[1][:1]))))
        self.refused("mean", -1, ("apart", (9, 1), STEPS))

    def test_several_entries_at_once(self):
        """For each two faults of one step the first in the list of the document is told."""
        faults = {"step": lambda step: ("z", *step[1:]), "events": lambda step: (*step[:2], step[2] + (None,)),
                  "fit": lambda step: (*step[:2], (step[2][0], ("b", 6, (9, 1)), *step[2][2:]))}
        for (first, one), (second, other) in itertools.combinations(faults.items(), 2):
            step = other(one(("b", (), GAINS[1])))
            word = "step" if "step" in (first, second) else "events"
            at = 0 if word == "step" else 1
            self.refused(word, at, ("apart", (9, 1), (STEPS[0], step)))


class Consequences(Case):
    def test_no_setting_is_nearer_than_the_paper(self):
        chance = random.Random(710)
        for town, rates, fears, run, hours in some_drifts(711, 100, (1, 2, 3, 4), 6):
            if not suspects_at(town, rates, fears, run):
                continue
            paper = apart_paper(town, rates, fears, run, hours)
            if paper is not None:
                told = lets_apart(town, rates, fears, run, hours, paper)
                best = setting_at(town, rates, fears, run, hours)
                for setting in some_settings(chance, town[0], best, 5) + [best]:
                    self.assertTrue(is_no_less(nearness_at(town, rates, fears, run, hours, setting), told))
