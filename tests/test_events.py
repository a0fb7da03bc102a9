"""Points [49] to [54], (O3): events, and what is surely ahead."""

import itertools
import random

from nearhours.events import could_be_ahead, gap, shown_at, surely_ahead
from nearhours.reaching import reaches
from nearhours.surepairs import circle_of, sure_pairs
from nearhours.suspects import suspects
from tests.support import (
    ALONE, EACH, LONG, ODD, RING, TWO, Case, explained_inquests, lots_of, parted_inquests, plain_reaches,
    plain_suspects, plain_ways, plainly_fit,
)

MET = (("a", "b", 5, 6),)
SPLIT = (("a", "b", 0, 0), ("a", "b", 0, 3))
TURN = (("a", 0), ("b", 2), ("c", 4))
WRONG_EVENTS = (None, True, 0, "a0", (), ("a",), ("a", 0, 0), ["a", 0], ("z", 0), (0, "a"), ("a", True), ("a", False),
                ("a", None), ("a", "0"), (["a"], 0), (True, 0), ("", 0), ("a", (0,)))


def plain_gap(town, fears, run, one, other):
    """The gap by all suspects and all chains."""
    rows = {row[:2]: row[2] for row in plain_reaches(town, fears, run)}
    if (one, other) not in rows:
        return None
    back, there = rows[other, one], rows[one, other]
    return (None if back is None else -back, there)


def plainly_ahead(town, fears, run, early, late):
    """Whether early is ahead of late for all, and for some suspects and gains, by all chains."""
    if early[0] == late[0]:
        return early[1] < late[1], early[1] < late[1]
    hours, sure, could = late[1] - early[1], True, False
    for lot in plain_suspects(town, fears, run):
        if early[0] not in lot and late[0] not in lot:
            sums = plain_ways(town, run, lot)
            most, back = sums.get((early[0], late[0])), sums.get((late[0], early[0]))
            sure = sure and most is not None and most < hours
            could = could or back is None or -back < hours
    return sure, could


def some_events(chance, town, many, far=6):
    return tuple((chance.choice(town[0]), chance.randint(-far, far)) for _ in range(many))


class Gaps(Case):
    def test_edges(self):
        self.same(gap(TWO, ((),), (), "a", "b"), (None, None))
        self.same(shown_at(TWO, ((),), (), ("a", LONG), "b"), (None, None))
        self.same(shown_at(TWO, ((),), MET, ("b", 6), "a"), (5, 7))
        self.assertIsNone(gap(TWO, (("a",),), SPLIT, "a", "b"))
        self.assertIsNone(shown_at(TWO, (("a",),), SPLIT, ("b", 0), "a"))
        self.same(gap(RING, EACH, ODD * 2, "c", "a"), (-7, -5))
        run = (("a", "b", -LONG, LONG),)
        self.same(gap(TWO, ((),), run, "a", "b"), (2 * LONG - 2, 2 * LONG))
        self.same(shown_at(TWO, ((),), run, ("a", LONG), "b"), (3 * LONG - 2, 3 * LONG))

    def test_by_name(self):
        told = {"town": TWO, "fears": ((),), "run": MET}
        self.same(gap(one="a", other="b", **told), (-1, 1))
        self.same(shown_at(event=("a", 5), tower="b", **told), (4, 6))
        self.same(surely_ahead(early=("a", 5), late=("b", 7), **told), True)
        self.same(could_be_ahead(early=("b", 5), late=("a", 5), **told), True)
        self.same(sure_pairs(events=(("a", 5), ("b", 7)), **told), ((0, 1),))
        self.same(circle_of(events=(("a", 5), ("b", 7)), **told), None)

    def test_against_all_chains(self):
        chance = random.Random(50)
        nothing, none = 0, 0
        for town, fears, run in explained_inquests(500, 150, (2, 3, 4), 9):
            for one, other in itertools.permutations(town[0], 2):
                told = plain_gap(town, fears, run, one, other)
                self.same(gap(town, fears, run, one, other), told)
                nothing, none = nothing + (told is None), none + (told == (None, None))
                hour = chance.randint(-9, 9)
                shown = None if told is None else tuple(None if end is None else hour + end for end in told)
                self.same(shown_at(town, fears, run, (one, hour), other), shown)
                turned = gap(town, fears, run, other, one)
                self.same(turned, told and tuple(None if end is None else -end for end in told[::-1]))
        self.assertGreater(min(nothing, none), 20)

    def test_towers_of_shown_at(self):
        for tower in (None, True, 0, "", "z", ("b",), ["b"], "a"):
            self.not_usable("tower", tower, shown_at, TWO, ((),), MET, ("a", 5), tower)
        for event in WRONG_EVENTS:
            self.not_usable("event", -1, shown_at, TWO, ((),), MET, event, "z")
        self.not_usable("tower", "a", shown_at, TWO, ((),), SPLIT, ("a", 5), "a")
        self.not_usable("run", -1, shown_at, TWO, ((),), SPLIT, ("a", 5), "b")

    def test_ends_of_gap(self):
        for one in (None, True, 0, "", "z", ("a",), ["a"]):
            self.not_usable("one", one, gap, TWO, ((),), SPLIT, one, one)
        for other in (None, True, 0, "", "z", ("b",), ["b"], "a"):
            self.not_usable("other", other, gap, TWO, ((),), SPLIT, "a", other)
        self.not_usable("run", -1, gap, TWO, ((),), SPLIT, "a", "b")


class Ahead(Case):
    def both(self, town, fears, run, early, late):
        return surely_ahead(town, fears, run, early, late), could_be_ahead(town, fears, run, early, late)

    def test_events_of_one_tower(self):
        for town, fears, run in ((ALONE, ((),), ()), (TWO, ((),), MET), (TWO, (("a",),), SPLIT), (RING, EACH, ODD)):
            for early, late in itertools.product((-LONG, -1, 0, 1, LONG), repeat=2):
                self.same(self.both(town, fears, run, ("a", early), ("a", late)), (early < late,) * 2)

    def test_edges(self):
        self.same(self.both(TWO, ((),), (), ("a", -LONG), ("b", LONG)), (False, True))
        self.same(self.both(TWO, (("b",),), SPLIT, ("a", LONG), ("b", -LONG)), (True, False))
        self.same(self.both(TWO, ((),), MET, ("a", 0), ("b", 1)), (False, True))
        self.same(self.both(TWO, ((),), MET, ("a", 0), ("b", 2)), (True, True))
        self.same(self.both(TWO, ((),), MET, ("a", 0), ("b", -1)), (False, False))
        self.same(self.both(TWO, ((),), MET, ("a", LONG), ("b", LONG + 2)), (True, True))

    def test_against_all_chains(self):
        chance = random.Random(51)
        seen = {}
        for town, fears, run in explained_inquests(510, 200, (1, 2, 3, 4), 9) + parted_inquests(511, 30):
            for early, late in itertools.product(some_events(chance, town, 4), repeat=2):
                told = plainly_ahead(town, fears, run, early, late)
                self.same(self.both(town, fears, run, early, late), told)
                seen[told] = seen.get(told, 0) + 1
        self.assertEqual(len(seen), 4)
        self.assertGreater(min(seen.values()), 50)

    def test_against_all_gains(self):
        chance = random.Random(52)
        for town, fears, run in explained_inquests(512, 60, (2, 3), 6):
            if None in [row[2] for row in reaches(town, fears, run)]:
                continue
            for early, late in itertools.product(some_events(chance, town, 3), repeat=2):
                if early[0] == late[0]:
                    continue
                found = set()
                for lot in suspects(town, fears, run):
                    left = [tower for tower in town[0] if tower not in lot]
                    for rest in itertools.product(range(-14, 15), repeat=len(left) - 1) if left else ():
                        gain = dict(zip(left, (0, *rest)))
                        if early[0] in gain and late[0] in gain and plainly_fit(town, run, lot, (0, *rest)):
                            found.add(early[1] - gain[early[0]] < late[1] - gain[late[0]])
                self.same(self.both(town, fears, run, early, late), (found <= {True}, True in found))

    def test_events_that_are_none(self):
        for call in (surely_ahead, could_be_ahead):
            for event in WRONG_EVENTS:
                self.not_usable("early", -1, call, TWO, ((),), SPLIT, event, event)
                self.not_usable("late", -1, call, TWO, ((),), SPLIT, ("a", 0), event)
            self.not_usable("run", -1, call, TWO, ((),), SPLIT, ("a", 0), ("b", 0))
            self.not_usable("run", -1, call, TWO, ((),), SPLIT, ("a", 0), ("a", 1))


class Pairs(Case):
    def test_edges(self):
        self.same((sure_pairs(TWO, ((),), MET, ()), circle_of(TWO, ((),), MET, ())), ((), None))
        self.same((sure_pairs(ALONE, ((),), (), (("a", 0),)), circle_of(ALONE, ((),), (), (("a", 0),))), ((), None))
        twice = (("a", 1), ("a", 0), ("a", 1), ("a", 0))
        self.same(sure_pairs(ALONE, ((),), (), twice), ((1, 0), (1, 2), (3, 0), (3, 2)))
        self.same(sure_pairs(TWO, (("a",),), SPLIT, (("a", 9), ("b", 0))), ((0, 1), (1, 0)))
        self.assertIn(circle_of(TWO, (("a",),), SPLIT, (("a", 9), ("b", 0))), ((0, 1), (1, 0)))
        self.assertIn(circle_of(RING, EACH, ODD, TURN), ((0, 1, 2), (1, 2, 0), (2, 0, 1)))
        many = tuple(("ab"[k % 2], k // 2) for k in range(24))
        self.assertEqual(len(sure_pairs(TWO, ((),), MET, many)), len(set(sure_pairs(TWO, ((),), MET, many))))
        self.assertIsNone(circle_of(TWO, ((),), MET, many))

    def test_against_each_pair(self):
        chance = random.Random(53)
        circles, none = 0, 0
        for town, fears, run in explained_inquests(530, 120, (1, 2, 3, 4), 9) + parted_inquests(531, 120):
            events = some_events(chance, town, chance.randint(0, 7), 9)
            wanted = tuple((j, k) for j in range(len(events)) for k in range(len(events))
                           if plainly_ahead(town, fears, run, events[j], events[k])[0])
            self.same(sure_pairs(town, fears, run, events), wanted)
            circle = circle_of(town, fears, run, events)
            if circle is None:
                none += 1
                self.assertFalse(self.has_circle(wanted))
                continue
            circles += 1
            self.assertIs(type(circle), tuple)
            self.assertGreaterEqual(len(circle), 2)
            self.assertEqual(len(set(circle)), len(circle))
            for step in zip(circle, circle[1:] + circle[:1]):
                self.assertIn(step, wanted)
            towers = {events[k][0] for k in circle}
            self.assertGreater(len(towers), 1)
            for lot in suspects(town, fears, run):
                self.assertTrue(towers & set(lot))
        self.assertGreater(min(circles, none), 20)

    def has_circle(self, pairs):
        """Whether these pairs lead around, by taking away those that nothing leads to."""
        while True:
            left = [(j, k) for j, k in pairs if j in [end for _, end in pairs]]
            if len(left) == len(pairs):
                return bool(pairs)
            pairs = left

    def test_events_that_are_none(self):
        for call in (sure_pairs, circle_of):
            for events in (None, True, 0, "", "ab", [], [("a", 0)], {}):
                self.not_usable("events", -1, call, TWO, ((),), SPLIT, events)
            for event in WRONG_EVENTS:
                self.not_usable("events", 0, call, TWO, ((),), SPLIT, (event, None))
                self.not_usable("events", 2, call, TWO, ((),), SPLIT, (("a", 0), ("b", 0), event, ("a", 0)))
            self.not_usable("run", -1, call, TWO, ((),), SPLIT, ())


class Consequences(Case):
    def test_sure_or_not(self):
        chance = random.Random(54)
        for town, fears, run in explained_inquests(540, 80, (2, 3, 4), 8):
            told = {row[:2]: row[2] for row in reaches(town, fears, run)}
            for early, late in itertools.product(some_events(chance, town, 4), repeat=2):
                if early[0] == late[0]:
                    continue
                between, hours = gap(town, fears, run, early[0], late[0]), late[1] - early[1]
                sure = between is None or between[1] is not None and between[1] < hours
                self.assertIs(surely_ahead(town, fears, run, early, late), sure)
                could = between is not None and (between[0] is None or between[0] < hours)
                self.assertIs(could_be_ahead(town, fears, run, early, late), could)
                if between is not None and sure:
                    self.assertTrue(could)
                    self.assertFalse(could_be_ahead(town, fears, run, late, early))
                if between is not None:
                    back = told[late[0], early[0]]
                    self.same(between, (None if back is None else -back, told[early[0], late[0]]))

    def test_more_letters_or_less_fears(self):
        chance = random.Random(55)
        for town, fears, run in explained_inquests(541, 100, (2, 3, 4), 8):
            events = some_events(chance, town, 5)
            pairs = set(sure_pairs(town, fears, run, events))
            if run:
                self.assertLessEqual(set(sure_pairs(town, fears, run[:-1], events)), pairs)
            for lot in lots_of(town[0])[:6]:
                more = tuple(sorted({*fears, lot}))
                self.assertLessEqual(set(sure_pairs(town, more, run, events)), pairs)

    def test_no_circle_with_nobody_feared(self):
        chance = random.Random(56)
        for town, _, run in explained_inquests(542, 150, (2, 3, 4), 6):
            if plain_suspects(town, ((),), run):
                self.assertIsNone(circle_of(town, ((),), run, some_events(chance, town, 8)))

    def test_three_in_a_row(self):
        self.assertIs(surely_ahead(RING, EACH, ODD, TURN[0], TURN[1]), True)
        self.assertIs(surely_ahead(RING, EACH, ODD, TURN[1], TURN[2]), True)
        self.assertIs(surely_ahead(RING, EACH, ODD, TURN[0], TURN[2]), False)
        chance = random.Random(57)
        rows = 0
        for town, fears, run in explained_inquests(543, 120, (3, 4), 9):
            events = [(tower, chance.randint(-9, 9)) for tower in town[0]]
            for first, second, third in itertools.permutations(events, 3):
                if surely_ahead(town, fears, run, first, second) and surely_ahead(town, fears, run, second, third):
                    for lot in suspects(town, fears, run):
                        if not set(lot) & {first[0], second[0], third[0]}:
                            rows += 1
                            most = plain_ways(town, run, lot)[first[0], third[0]]
                            self.assertLess(most, third[1] - first[1])
        self.assertGreater(rows, 20)
