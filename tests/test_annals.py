"""Point [56]: annals as objects."""

import random

from nearhours.annals import Annals
from nearhours.events import could_be_ahead, surely_ahead
from nearhours.surepairs import circle_of, sure_pairs
from nearhours.suspects import suspects
from nearhours.towns import Town
from tests.support import (
    ALONE, EACH, LONG, ODD, ODDITIES, RING, TWO, WAY, Case, explained_inquests, plain_suspects,
)

MET = (("a", "b", 5, 6),)
TURN = (("a", 0), ("b", 2), ("c", 4))
WRONG_EVENTS = (None, True, 0, "a0", (), ("a",), ("a", 0, 0), ["a", 0], ("z", 0), (0, "a"), ("a", True), ("a", None),
                ("a", "0"), (["a"], 0), (True, 0), ("", 0))
WRONG_INDEXES = (3, -1, LONG, None, True, False, "", "0", (), (0,), [0], ("a", 0))


def state(one):
    """All that an Annals tells of itself."""
    indexes = range(len(one))
    words = [one(j, k) for j in indexes for k in indexes]
    rows = [(one[k], one.sure_before(k), one.sure_after(k)) for k in indexes]
    return repr((one.town_now, one.fears_now, one.run_now, one.events_now, one.pairs_now, one.circle_now, words, rows,
                 list(one), len(one)))


def some_annals(seed, count, many=5):
    """The parts of Annals, by chance."""
    chance = random.Random(seed)
    cases = []
    for town, fears, run in explained_inquests(seed, count, (1, 2, 3, 4), 8):
        events = [(chance.choice(town[0]), chance.randint(-6, 6)) for _ in range(chance.randint(0, many))]
        cases.append((town, fears, run, tuple(events)))
    return cases


class AnnalsOfEvents(Case):
    def setUp(self):
        self.one = Annals(RING, EACH, ODD, TURN)

    def test_all_that_is_told(self):
        seen = {"surely": 0, "never": 0, "perhaps": 0}
        for town, fears, run, events in some_annals(560, 100):
            one = Annals(town, fears, run, events)
            self.same((one.town_now, one.fears_now, one.run_now, one.events_now), (town, fears, run, events))
            pairs = sure_pairs(town, fears, run, events)
            self.same((one.pairs_now, one.circle_now), (pairs, circle_of(town, fears, run, events)))
            self.same((tuple(one), len(one)), (events, len(events)))
            for j, early in enumerate(events):
                self.same((one[j], early in one), (early, True))
                self.same(one.sure_before(j), tuple(k for k in range(len(events)) if (k, j) in pairs))
                self.same(one.sure_after(index=j), tuple(k for k in range(len(events)) if (j, k) in pairs))
                for k, late in enumerate(events):
                    word = "perhaps" if could_be_ahead(town, fears, run, early, late) else "never"
                    word = "surely" if surely_ahead(town, fears, run, early, late) else word
                    self.same(one(j, k), word)
                    self.same(one(late=k, early=j), word)
                    seen[word] += 1
        self.assertGreater(min(seen.values()), 50)

    def test_made_of_any_values(self):
        for town in ODDITIES:
            self.not_usable("town", -1, Annals, town, None, None, None)
        for fears in (None, (), [()], (("b",), ("a",)), (("z",),), "a"):
            self.not_usable("fears", -1, Annals, RING, fears, None, None)
        for run in (None, [], (None,), (("a", "b", 0, True),), (("a", "z", 0, 1),)):
            self.not_usable("run", -1, Annals, RING, EACH, run, None)
        for events in (None, True, "", [], [("a", 0)]):
            self.not_usable("events", -1, Annals, RING, ((),), ODD, events)
        for event in WRONG_EVENTS:
            self.not_usable("events", 1, Annals, RING, ((),), ODD, (("a", 0), event, None))
        self.not_usable("run", -1, Annals, town=RING, fears=((),), run=ODD, events=TURN)

    def test_indexes(self):
        for index in WRONG_INDEXES:
            self.not_usable("index", index, lambda: self.one[index])
            self.not_usable("index", index, self.one.sure_before, index)
            self.not_usable("index", index, self.one.sure_after, index)
            self.not_usable("early", index, self.one, index, index)
            self.not_usable("late", index, self.one, 0, index)
        none = Annals(ALONE, ((),), (), ())
        self.not_usable("index", 0, lambda: none[0])
        self.not_usable("early", 0, none, 0, 0)

    def test_contains(self):
        one = Annals(RING, EACH, ODD, (("a", 0), ("b", 1)))
        others = (("a", False), ("b", True), ("b", 0), ("c", 0), ["a", 0], one, Town.of(RING))
        for thing in ODDITIES + WRONG_EVENTS + others:
            self.assertIs(thing in one, False, thing)
        self.assertIs(("a", 0) in one and ("b", 1) in one, True)

    def test_equality(self):
        self.assertTrue(self.one == Annals(RING, EACH, ODD, TURN))
        wide = (RING[0], RING[1][:2] + (("b", "c", 0, 3),))
        for other in (Annals(RING, EACH, ODD, TURN[:2]), Annals(RING, EACH, ODD, TURN[::-1]),
                      Annals(RING, EACH, ODD[:2], TURN), Annals(RING, EACH[:2], ODD, TURN),
                      Annals(wide, EACH, ODD, TURN), Town.of(RING), TURN, None, 0):
            self.assertIs(self.one == other, False)
            self.assertIs(self.one != other, True)

    def test_an_event_more(self):
        more = self.one.with_event(("a", LONG))
        self.same((more.events_now, more.run_now), (TURN + (("a", LONG),), ODD))
        self.same(self.one.with_event(event=TURN[0]).events_now, TURN + TURN[:1])
        for event in WRONG_EVENTS:
            self.not_usable("event", -1, self.one.with_event, event)
        many = self.one
        for hour in range(24):
            many = many.with_event(("a", hour))
        self.assertEqual(len(many), 27)

    def test_a_letter_more(self):
        more = self.one.with_letter(("a", "c", 0, 1))
        self.same((more.events_now, more.run_now), (TURN, ODD + (("a", "c", 0, 1),)))
        for letter in ODDITIES + (("a", "b", 0), ("a", "b", 0, True), ("a", "z", 0, 1), ("a", "a", 0, 1), ODD,
                                  ["a", "b", 0, 1], ("a", "b", 0, 1, 2)):
            self.not_usable("letter", -1, self.one.with_letter, letter)
        self.not_usable("letter", -1, Annals(WAY, ((),), (), ()).with_letter, ("a", "c", 0, 0))
        self.not_usable("run", -1, Annals(TWO, ((),), MET, ()).with_letter, ("a", "b", 5, 9))
        self.not_usable("run", -1, Annals(RING, ((),), ODD[:2], TURN).with_letter, ODD[2])

    def test_of_letters(self):
        self.same(Annals.of(TWO, ((),), ()).events_now, ())
        one = Annals.of(town=RING, fears=EACH, run=ODD)
        self.assertIs(type(one), Annals)
        self.same(one.events_now, (("a", -5), ("a", 0), ("b", 0), ("b", 1), ("c", 0), ("c", 1)))
        self.same(Annals.of(TWO, ((),), MET * 2 + (("b", "a", 6, 5),)).events_now, (("a", 5), ("b", 6)))
        run = tuple(("a", "b", hour, hour + 1) for hour in range(-8, 8))
        self.assertEqual(len(Annals.of(TWO, ((),), run)), 32)
        for town, fears, run, _ in some_annals(561, 40):
            events = {event for one, other, sent, heard in run for event in ((one, sent), (other, heard))}
            self.assertTrue(Annals.of(town, fears, run) == Annals(town, fears, run, tuple(sorted(events))))

    def test_of_any_values(self):
        for town in ODDITIES:
            self.not_usable("town", -1, Annals.of, town, None, None)
        for fears in (None, (), [()], (("b",), ("a",)), (("z",),)):
            self.not_usable("fears", -1, Annals.of, RING, fears, None)
        for run in (None, [], (None,), (("a", "b", 0, True),), (("a", "b", 0),), (("a", "z", 0, 1),)):
            self.not_usable("run", -1, Annals.of, RING, EACH, run)
        self.not_usable("run", -1, Annals.of, RING, ((),), ODD)

    def test_it_never_changes(self):
        before = state(self.one)
        for ask in (lambda: self.one.with_letter(ODD[0]), lambda: self.one.with_event(TURN[0]), lambda: self.one(0, 1),
                    lambda: self.one.sure_before(0), lambda: self.one.sure_after(0), lambda: self.one.circle_now):
            self.assertTrue(ask() == ask())
            self.same(state(self.one), before)
        for refused in (lambda: self.one.with_letter(None), lambda: self.one.with_event(None), lambda: self.one(9, 9),
                        lambda: self.one.sure_before(9), lambda: self.one.sure_after(9), lambda: self.one[9]):
            self.refusal(refused)
            self.same(state(self.one), before)
        for name in ("town_now", "fears_now", "run_now", "events_now", "pairs_now", "circle_now"):
            with self.assertRaises(AttributeError):
                setattr(self.one, name, ())

    def test_iterated_over_twice_at_once(self):
        self.same([(one, other) for one in self.one for other in self.one],
                  [(one, other) for one in TURN for other in TURN])
        first, second = iter(self.one), iter(self.one)
        self.same((next(first), next(first), next(second)), (TURN[0], TURN[1], TURN[0]))


class Consequences(Case):
    def test_surely_both_ways(self):
        for town, fears, run, events in some_annals(562, 120):
            one, told = Annals(town, fears, run, events), plain_suspects(town, fears, run)
            for j, early in enumerate(events):
                for k, late in enumerate(events):
                    self.assertIs(one(j, k) == "surely", (j, k) in one.pairs_now)
                    if early[0] != late[0] and all({early[0], late[0]} & set(lot) for lot in told):
                        self.same((one(j, k), one(k, j)), ("surely", "surely"))

    def test_no_pair_is_lost(self):
        for town, fears, run, events in some_annals(563, 100):
            one = Annals(town, fears, run[:-1], events)
            pairs = set(one.pairs_now)
            if run and suspects(town, fears, run):
                self.assertLessEqual(pairs, set(one.with_letter(run[-1]).pairs_now))
            self.assertLessEqual(pairs, set(one.with_event((town[0][0], 3)).pairs_now))
