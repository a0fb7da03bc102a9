"""Point [71]: clocks that gain or lose as they run, as objects."""

from nearhours.driftchecker import lets_apart
from nearhours.driftpapers import apart_paper
from nearhours.drifting import nearest_at, nearness_at, reach_at, reaches_at, setting_at, suspects_at
from nearhours.towns import Town
from nearhours.waiting import last_hour
from nearhours.watches import Watch
from tests.support import ALONE, EACH, LONG, ODD, ODDITIES, RING, TWO, WAY, Case, some_drifts
from tests.test_drift_papers import STEPS
from tests.test_drifting import FAST, NONE, ONE, SLOWER, STILL, TORN

WILD = ((-500, 500),) * 3
NO_HOURS = (None, True, 0, "", (), (0,), (0, 0, 0), [0, 0], (0, True), (0, None), ("0", "0"), ((0,), 0))
NO_LETTERS = (("a", "b", 0), ("a", "b", 0, True), ("a", "z", 0, 1), ("a", "a", 0, 1), ["a", "b", 0, 1],
              ("a", "b", 0, 1, 2), (["a"], "b", 0, 1), ("a", "b", None, 1))
NO_INDEXES = (-1, LONG, None, True, False, "", "0", (), (0,), [0])


def state(one):
    """All that a Watch tells of itself."""
    hours = (3,) * len(one.town_now[0])
    told = [one.town_now, one.rates_now, one.fears_now, one.run_now, one.lots_now, one.is_explained(), list(one),
            len(one), [one[k] for k in range(len(one))]]
    if one.is_explained():
        told += [one(hours), one.set_for(hours), one.last_for(0, (3, 1)), one.paper_for(hours)]
    return repr(told)


class Watches(Case):
    def setUp(self):
        self.one = Watch(TWO, FAST, NONE, ONE)
        self.torn = Watch(TWO, STILL, NONE, TORN)

    def test_all_that_is_told(self):
        seen = {True: 0, False: 0}
        for town, rates, fears, run, hours in some_drifts(720, 150, (1, 2, 3, 4), 5):
            one = Watch(town, rates, fears, run)
            self.same((one.town_now, one.rates_now, one.fears_now, one.run_now), (town, rates, fears, run))
            self.same((one.lots_now, tuple(one), len(one)), (suspects_at(town, rates, fears, run), run, len(run)))
            self.same(one.is_explained(), one.lots_now != ())
            self.same([one[k] for k in range(len(run))], list(run))
            self.assertTrue(all(letter in one for letter in run))
            seen[one.is_explained()] += 1
            if not one.is_explained():
                for ask in (lambda: one(hours), lambda: one.set_for(hours), lambda: one.paper_for(hours),
                            lambda: one.last_for(0, (1, 1))):
                    self.not_usable("run", -1, ask)
                continue
            told = (town, rates, fears, run)
            self.same((one(hours), one(hours=hours)), (nearest_at(*told, hours),) * 2)
            self.same(one.paper_for(hours), apart_paper(*told, hours))
            self.same(one.last_for(most=(2, 1), first=-3), last_hour(*told, -3, (2, 1)))
            if one(hours) is None:
                self.assertIsNone(one.set_for(hours=hours))
            else:
                self.same(nearness_at(*told, hours, one.set_for(hours)), one(hours))
                self.same(one.set_for(hours), setting_at(*told, hours))
                self.same(one.judged(hours, one.paper_for(hours)), one(hours))
            for tower, other, most in reaches_at(*told, hours):
                self.same(one.reach_for(hours, tower, other), most)
                self.same(one.reach_for(other=other, tower=tower, hours=hours), reach_at(*told, hours, tower, other))
        self.assertGreater(min(seen.values()), 10)

    def test_made_of_any_values(self):
        for town in ODDITIES:
            self.not_usable("town", -1, Watch, town, None, None, None)
        for rates in (None, (), FAST, list(WILD), ((0, 0), (0, 0), (1, 0)), ((0, 0), (0, 0), (0, 1000)), 0, "abc"):
            self.not_usable("rates", -1, Watch, RING, rates, None, None)
        for fears in (None, (), [()], (("b",), ("a",)), (("z",),), "a"):
            self.not_usable("fears", -1, Watch, RING, WILD, fears, None)
        for run in (None, [], (None,), (("a", "b", 0, True),), (("a", "z", 0, 1),)):
            self.not_usable("run", -1, Watch, RING, WILD, EACH, run)
        self.assertIs(Watch(town=RING, rates=((0, 0),) * 3, fears=NONE, run=ODD).is_explained(), False)
        self.same(Watch(ALONE, ((-1, 1),), (("a",),), ()).lots_now, ((), ("a",)))

    def test_a_run_that_nobody_explains(self):
        self.same((self.torn.lots_now, self.torn.is_explained(), len(self.torn)), ((), False, 2))
        for ask in (self.torn, self.torn.set_for, self.torn.paper_for):
            self.not_usable("run", -1, ask, (0, 0))
        self.not_usable("run", -1, self.torn.reach_for, (0, 0), "a", "b")
        self.not_usable("one", "z", self.torn.reach_for, (0, 0), "z", "z")
        self.not_usable("run", -1, self.torn.last_for, 0, (5, 1))
        self.same(self.torn.judged((0, 0), ("apart", (0, 1), ())), (0, 1))

    def test_arguments_that_are_not_usable(self):
        for hours in NO_HOURS:
            for one in (self.one, self.torn):
                for ask in (one, one.set_for, one.paper_for):
                    self.not_usable("hours", -1, ask, hours)
                self.not_usable("hours", -1, one.reach_for, hours, "z", "z")
                self.not_usable("hours", -1, one.judged, hours, None)
        for tower in (None, True, 0, "", "z", ("a",), ["a"], "ab"):
            self.not_usable("one", tower, self.one.reach_for, (5, 6), tower, "b")
            self.not_usable("one", tower, self.one.reach_for, (5, 6), tower, tower)
            self.not_usable("other", tower, self.one.reach_for, (5, 6), "a", tower)
        self.not_usable("other", "a", self.one.reach_for, (5, 6), "a", "a")
        self.not_usable("other", "b", Watch(TWO, STILL, (("a",),), TORN).reach_for, (0, 0), "a", "b")

    def test_judged(self):
        self.same(self.one.judged((5, 6), ("apart", (1, 1), STEPS)), (1, 1))
        self.same(self.one.judged(thing=("apart", (1, 2), STEPS), hours=(5, 6)), (1, 2))
        for thing in ODDITIES:
            self.invalid("shape", -1, self.one.judged, (5, 6), thing)
        self.invalid("mean", -1, self.one.judged, (5, 6), ("apart", (3, 2), STEPS))
        self.invalid("events", 0, self.one.judged, (5, 7), ("apart", (1, 1), STEPS))

    def test_a_letter_more(self):
        more = self.one + ("b", "a", 9, 9)
        self.assertIs(type(more), Watch)
        self.same((more.town_now, more.rates_now, more.fears_now), (TWO, FAST, NONE))
        self.same(more.run_now, ONE + (("b", "a", 9, 9),))
        self.same((self.one + ONE[0]).run_now, ONE * 2)
        self.assertIs((self.one + ("a", "b", 5, 9)).is_explained(), False)
        for letter in ODDITIES + NO_LETTERS + (ONE,):
            self.not_usable("letter", -1, lambda: self.one + letter)
        self.not_usable("letter", -1, lambda: Watch(WAY, WILD, NONE, ()) + ("a", "c", 0, 0))
        self.same(len(lets_apart(*self.arguments(more), (0, 0), more.paper_for((0, 0)))), 2)

    def arguments(self, one):
        return one.town_now, one.rates_now, one.fears_now, one.run_now

    def test_indexes(self):
        for index in NO_INDEXES + (1, ("a", "b", 5, 6)):
            self.not_usable("index", index, lambda: self.one[index])
        self.not_usable("index", 0, lambda: Watch(TWO, FAST, NONE, ())[0])
        self.same((self.torn[0], self.torn[1]), TORN)

    def test_contains(self):
        one = Watch(TWO, FAST, NONE, (("a", "b", 0, 1),))
        for thing in ODDITIES + NO_LETTERS + (("a", "b", False, 1), ("a", "b", 0, True), ("b", "a", 0, 1), one, ONE[0]):
            self.assertIs(thing in one, False, thing)
        self.assertIs(("a", "b", 0, 1) in one, True)

    def test_equality(self):
        self.assertTrue(self.one == Watch(TWO, FAST, NONE, ()) + ONE[0])
        wide = (("a", "b"), (("a", "b", 0, 3),))
        for other in (Watch(wide, FAST, NONE, ONE), Watch(TWO, SLOWER, NONE, ONE), Watch(TWO, FAST, (("a",),), ONE),
                      Watch(TWO, FAST, NONE, ()), Town.of(TWO), ONE, None, 0):
            self.assertIs(self.one == other, False)
            self.assertIs(self.one != other, True)

    def test_it_never_changes(self):
        before = state(self.one)
        for ask in (lambda: self.one + ONE[0], lambda: self.one((5, 6)), lambda: self.one.set_for((5, 6)),
                    lambda: self.one.paper_for((5, 6)), lambda: self.one.last_for(6, (2, 1)), lambda: self.one.lots_now,
                    lambda: self.one.reach_for((5, 6), "a", "b"), lambda: self.one.judged((5, 6), ("apart", (0, 1), ()))):
            self.assertTrue(ask() == ask())
            self.same(state(self.one), before)
        for refused in (lambda: self.one + None, lambda: self.one(None), lambda: self.one[9],
                        lambda: self.one.judged((5, 6), None), lambda: self.one.reach_for((5, 6), "a", "a")):
            self.refusal(refused)
            self.same(state(self.one), before)
        for name in ("town_now", "rates_now", "fears_now", "run_now", "lots_now"):
            with self.assertRaises(AttributeError):
                setattr(self.one, name, ())

    def test_iterated_over_twice_at_once(self):
        self.same([(one, other) for one in self.torn for other in self.torn],
                  [(one, other) for one in TORN for other in TORN])
        first, second = iter(self.torn), iter(self.torn)
        self.same((next(first), next(first), next(second)), (TORN[0], TORN[1], TORN[0]))
