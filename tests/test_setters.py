"""Point [48]: settings as objects."""

from fractions import Fraction

from nearhours.kinds import is_fraction
from nearhours.reaching import reach, reaches
from nearhours.setters import Setter
from nearhours.settings import nearest, nearness_of
from nearhours.towns import Town
from tests.support import (
    ALONE, EACH, LONG, ODD, ODDITIES, RING, TWO, WAY, Case, as_pair, explained_inquests,
)

MET = (("a", "b", 5, 6),)
SPLIT = (("a", "b", 0, 0), ("a", "b", 0, 3))
CALM = (("a", "b", 0, 1), ("a", "c", 0, 0), ("c", "b", 0, 0))


def state(it):
    """All that a Setter tells of itself."""
    hours = [it.hour_set(tower, 7) for tower in it.town_now[0]]
    return repr((it.town_now, it.fears_now, it.run_now, it.nearest_now, it.setting_now, hours, list(it), len(it)))


class Setters(Case):
    def setUp(self):
        self.it = Setter(RING, EACH, CALM)

    def test_properties(self):
        without = 0
        for town, fears, run in explained_inquests(480, 100, (1, 2, 3, 4), 9):
            it = Setter(town, fears, run)
            self.same((it.town_now, it.fears_now, it.run_now), (town, fears, run))
            self.same(it.nearest_now, nearest(town, fears, run))
            rows = reaches(town, fears, run)
            self.same((tuple(it), len(it)), (rows, len(rows)))
            without += it.setting_now is None
            self.assertIs(it.setting_now is None, it.nearest_now is None)
            if it.setting_now is not None:
                self.same(it.nearness_by(it.setting_now), it.nearest_now)
                self.assertEqual([is_fraction(one) for one in it.setting_now], [True] * len(town[0]))
            self.same(it.setting_now, it.setting_now)
            self.same(it.setting_now, Setter(town, fears, run).setting_now)
            for row in rows:
                self.assertIs(row in it, True)
                self.same(it.reach_between(row[0], row[1]), row[2])
        self.assertGreater(without, 10)

    def test_made_of_any_values(self):
        for town in ODDITIES:
            self.not_usable("town", -1, Setter, town, None, None)
        for fears in (None, (), [()], (("b",), ("a",)), (("z",),), "a"):
            self.not_usable("fears", -1, Setter, RING, fears, None)
        for run in (None, [], (None,), (("a", "b", 0, True),), (("a", "z", 0, 1),)):
            self.not_usable("run", -1, Setter, RING, EACH, run)
        self.not_usable("run", -1, Setter, RING, ((),), ODD)
        self.not_usable("run", -1, Setter, run=SPLIT, fears=((),), town=TWO)

    def test_reach_between(self):
        self.same(self.it.reach_between(one="b", other="c"), reach(RING, EACH, CALM, "b", "c"))
        for one in (None, True, 0, "", "z", ("a",), ["a"]):
            self.not_usable("one", one, self.it.reach_between, one, "z")
        for other in (None, True, 0, "", "z", ("b",), ["b"], "a"):
            self.not_usable("other", other, self.it.reach_between, "a", other)
        lied = Setter(TWO, (("a",),), SPLIT)
        self.not_usable("other", "b", lied.reach_between, "a", "b")

    def test_nearness_by(self):
        self.same(self.it.nearness_by(setting=((0, 1),) * 3), (2, 1))
        setting = ((0, 1), (1, 3), (1, 2))
        self.same(self.it.nearness_by(setting), nearness_of(RING, EACH, CALM, setting))
        for setting in (None, (), ((0, 1),) * 2, ((0, 1), (0, 1), (2, 2)), [(0, 1)] * 3, ((0, 1), (0, 1), (0, True))):
            self.not_usable("setting", -1, self.it.nearness_by, setting)
        self.assertIsNone(Setter(TWO, ((),), ()).nearness_by(((0, 1), (0, 1))))

    def test_hour_set(self):
        for it in (self.it, Setter(TWO, ((),), MET), Setter(ALONE, ((),), ())):
            for tower, taken in zip(it.town_now[0], it.setting_now):
                for hour in (0, 5, -7, LONG):
                    self.same(it.hour_set(tower, hour), as_pair(hour - Fraction(*taken)))
                    self.same(it.hour_set(hour=hour, tower=tower), it.hour_set(tower, hour))

    def test_hours_that_are_none(self):
        for it in (self.it, Setter(TWO, ((),), ())):
            for tower in (None, True, 0, "", "z", ("a",), ["a"], "ab"):
                self.not_usable("tower", tower, it.hour_set, tower, None)
                self.not_usable("tower", tower, it.hour_set, tower, 0)
            for hour in (None, True, False, "", "1", (), (1,), [1], (0, 1)):
                self.not_usable("hour", -1, it.hour_set, "a", hour)
        self.assertIsNone(Setter(TWO, ((),), ()).hour_set("b", LONG))

    def test_with_letter(self):
        late = self.it.with_letter(("b", "c", 0, 1))
        self.assertIsInstance(late, Setter)
        self.same((late.town_now, late.fears_now, late.run_now), (RING, EACH, CALM + (("b", "c", 0, 1),)))
        self.same(self.it.with_letter(letter=CALM[0]).run_now, CALM + CALM[:1])
        for letter in ODDITIES + (("a", "b", 0), ("a", "b", 0, True), ("a", "z", 0, 1), ("a", "a", 0, 1), CALM,
                                  ["a", "b", 0, 1], ("a", "b", 0, 1, 2)):
            self.not_usable("letter", -1, self.it.with_letter, letter)
        self.not_usable("letter", -1, Setter(WAY, ((),), ()).with_letter, ("a", "c", 0, 0))
        self.not_usable("run", -1, Setter(TWO, ((),), MET).with_letter, ("a", "b", 5, 9))
        self.not_usable("run", -1, Setter(RING, ((),), ODD[:2]).with_letter, ODD[2])

    def test_contains(self):
        for thing in ODDITIES + (("a", "b"), ("a", "b", 2), ("a", "b", None), ["a", "b", 1], ("a", "b", 1, 0), self.it,
                                 ("a", "b", True), ("b", "a", True), ("a", "c", False), ("a", "a", 0), Town.of(RING)):
            self.assertIs(thing in self.it, False, thing)
        self.same(reaches(RING, EACH, CALM)[:2], (("a", "b", 1), ("a", "c", 0)))
        self.assertIs(("a", "b", 1) in self.it and ("a", "c", 0) in self.it, True)
        without = Setter(TWO, ((),), ())
        self.assertIs(("a", "b", None) in without, True)
        self.assertIs(("a", "b", 0) in without or ("a", "b", False) in without or (None, None, None) in without, False)

    def test_equality(self):
        self.assertTrue(self.it == Setter(RING, EACH, CALM))
        for other in (Setter(RING, EACH, CALM[:2]), Setter(RING, EACH[:2], CALM), Setter(RING, EACH, CALM[::-1]),
                      Setter((RING[0], RING[1][:2] + (("b", "c", 0, 3),)), EACH, CALM), Town.of(RING), RING, None, 0,
                      (RING, EACH, CALM)):
            self.assertIs(self.it == other, False)
            self.assertIs(self.it != other, True)

    def test_it_never_changes(self):
        before = state(self.it)
        for ask in (lambda: self.it.with_letter(CALM[0]), lambda: self.it.hour_set("a", 1),
                    lambda: self.it.nearness_by(((0, 1),) * 3), lambda: self.it.reach_between("a", "b")):
            self.assertTrue(ask() == ask())
            self.same(state(self.it), before)
        for refused in (lambda: self.it.with_letter(None), lambda: self.it.hour_set("a", None),
                        lambda: self.it.nearness_by(None), lambda: self.it.reach_between("a", "a")):
            self.refusal(refused)
            self.same(state(self.it), before)
        for name in ("town_now", "fears_now", "run_now", "nearest_now", "setting_now"):
            with self.assertRaises(AttributeError):
                setattr(self.it, name, ())

    def test_iterated_over_twice_at_once(self):
        rows = reaches(RING, EACH, CALM)
        self.same([(one, other) for one in self.it for other in self.it],
                  [(one, other) for one in rows for other in rows])
        first, second = iter(self.it), iter(self.it)
        self.same((next(first), next(first), next(second)), (rows[0], rows[1], rows[0]))
