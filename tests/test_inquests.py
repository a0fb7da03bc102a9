"""Point [37]: inquests as objects."""

from nearhours.inquests import Inquest
from nearhours.liepapers import lie_paper
from nearhours.suspects import could_lie, kernel_suspects, surely_lied, suspects
from nearhours.towns import Town
from tests.support import (
    ALONE, EACH, LONG, ODD, ODDITIES, RING, TWO, WAY, Case, lots_of, plain_suspects, some_inquests,
)

SPLIT = (("a", "b", 0, 0), ("a", "b", 0, 3))


def state(it):
    """All that an Inquest tells of itself."""
    verdicts = tuple(it[tower] for tower in it.town_now[0])
    return repr((it.town_now, it.fears_now, it.run_now, it.suspects_now, it.kernel_now, it.lied_now, it.could_now,
                 it.verdicts_now, verdicts, list(it), len(it), it.telling()))


class Inquests(Case):
    def setUp(self):
        self.it = Inquest(RING, EACH, ODD)

    def test_properties(self):
        for town, fears, run in some_inquests(370, 120):
            it = Inquest(town, fears, run)
            told = plain_suspects(town, fears, run)
            self.same((it.town_now, it.fears_now, it.run_now), (town, fears, run))
            self.same((it.suspects_now, tuple(it), len(it)), (told, told, len(told)))
            self.same(it.kernel_now, kernel_suspects(town, fears, run))
            self.same((it.lied_now, it.could_now), (surely_lied(town, fears, run), could_lie(town, fears, run)))
            for lot in lots_of(town[0]):
                self.assertIs(lot in it, lot in told)
            words = []
            for tower in town[0]:
                if all(tower in lot for lot in told):
                    words.append((tower, "lied"))
                else:
                    words.append((tower, "perhaps" if any(tower in lot for lot in told) else "honest"))
                self.same(it[tower], words[-1][1])
            self.same(it.verdicts_now, tuple(words))

    def test_it_may_explain_nothing(self):
        it = Inquest(town=TWO, fears=((),), run=SPLIT)
        self.same((it.suspects_now, it.kernel_now, it.lied_now, it.could_now, len(it)), ((), (), ("a", "b"), (), 0))
        self.same((it.verdicts_now, it["b"], list(it)), ((("a", "lied"), ("b", "lied")), "lied", []))
        self.assertFalse(() in it)

    def test_made_of_any_values(self):
        for town in ODDITIES:
            self.not_usable("town", -1, Inquest, town, None, None)
        for fears in (None, (), [()], (("b",), ("a",)), (("z",),), "a"):
            self.not_usable("fears", -1, Inquest, RING, fears, None)
        for run in (None, [], (None,), (("a", "b", 0, True),), (("a", "z", 0, 1),)):
            self.not_usable("run", -1, Inquest, RING, EACH, run)
        self.not_usable("run", -1, Inquest, WAY, EACH, ODD)

    def test_towers(self):
        for tower in (None, True, 0, "", "d", ("a",), ["a"], "ab", ()):
            self.not_usable("tower", tower, lambda: self.it[tower])
            self.not_usable("tower", tower, self.it.paper, tower)

    def test_contains(self):
        for thing in ODDITIES + ("a", ["a"], ("b", "a"), ("z",), (("a",),), self.it, Town.of(RING), {}):
            self.assertIs(thing in self.it, thing == ("a",) if isinstance(thing, tuple) else False)
        self.assertIs(("a",) in self.it, True)

    def test_equality(self):
        self.assertTrue(self.it == Inquest(RING, EACH, ODD))
        for other in (Inquest(RING, EACH, ODD[:2]), Inquest(RING, EACH[:2], ODD), Inquest(RING, EACH, ODD[::-1]),
                      Inquest((RING[0], RING[1][:2] + (("b", "c", 0, 3),)), EACH, ODD), Town.of(RING), RING, None, 0,
                      (RING, EACH, ODD), EACH):
            self.assertIs(self.it == other, False)
            self.assertIs(self.it != other, True)
        self.assertIs(other == self.it, False)

    def test_a_letter_more(self):
        late = self.it + ("a", "c", 0, 1)
        self.same(late.run_now, ODD + (("a", "c", 0, 1),))
        self.same((self.it + ODD[0]).run_now, ODD + ODD[:1])
        self.same((Inquest(RING, EACH, ()) + ("b", "a", LONG, -LONG)).run_now, (("b", "a", LONG, -LONG),))
        for letter in ODDITIES + (("a", "b", 0), ("a", "b", 0, True), ("a", "z", 0, 1), ("a", "a", 0, 1), 3, -3,
                                  ["a", "b", 0, 1], ("a", "b", 0, 1, 2), ODD, ("b",), self.it):
            self.not_usable("letter", -1, lambda: self.it + letter)
        self.not_usable("letter", -1, lambda: Inquest(WAY, EACH, ()) + ("a", "c", 0, 0))

    def test_a_letter_less(self):
        self.same([(self.it - k).run_now for k in range(3)], [ODD[1:], (ODD[0], ODD[2]), ODD[:2]])
        self.same((self.it + ODD[0] - 0).run_now, ODD[1:] + ODD[:1])
        self.assertTrue(self.it + ODD[1] - 3 == self.it)
        for index in (3, -1, LONG, None, True, False, "", "0", (), (0,), ODD[0], [0]):
            self.not_usable("index", index, lambda: self.it - index)
        self.not_usable("index", 0, lambda: Inquest(RING, EACH, ()) - 0)

    def test_a_lot_more(self):
        self.same((self.it | ("a", "b")).fears_now, (("a",), ("a", "b"), ("b",), ("c",)))
        self.same((self.it | ()).fears_now, ((),) + EACH)
        self.same((self.it | ("b", "c")).fears_now, (("a",), ("b",), ("b", "c"), ("c",)))
        for lot in EACH:
            self.assertTrue(self.it | lot == self.it)
        for lot in (None, True, 0, "a", "", ["a"], [], ("z",), ("b", "a"), ("a", "a"), (1,), EACH, self.it):
            self.not_usable("lot", -1, lambda: self.it | lot)

    def test_a_lot_less(self):
        self.same([(self.it ^ lot).fears_now for lot in EACH], [EACH[1:], (("a",), ("c",)), EACH[:2]])
        self.assertTrue((self.it | ("a", "b")) ^ ("a", "b") == self.it)
        for lot in (None, True, 0, "a", "", ["a"], [], (), ("z",), ("a", "b"), ("b", "a"), (1,), EACH, self.it):
            self.not_usable("lot", -1, lambda: self.it ^ lot)
        only = Inquest(RING, (("a",),), ODD)
        self.not_usable("lot", -1, lambda: only ^ ("a",))
        self.not_usable("lot", -1, lambda: only ^ ("b",))

    def test_telling(self):
        for town, fears, run in some_inquests(371, 80):
            it = Inquest(town, fears, run)
            wanted = [k for k in range(len(run))
                      if len(suspects(town, fears, run[:k] + run[k + 1:])) > len(suspects(town, fears, run))]
            self.same(it.telling(), tuple(wanted))
            self.same(it.telling(), tuple(k for k in range(len(run)) if len(it - k) > len(it)))
        self.same(Inquest(ALONE, ((),), ()).telling(), ())
        self.same((self.it + ODD[2]).telling(), (0, 1))

    def test_papers(self):
        for tower in RING[0]:
            self.same(self.it.paper(tower), lie_paper(RING, EACH, ODD, tower))
            self.same(self.it.paper(tower=tower), self.it.paper(tower))

    def test_it_never_changes(self):
        before = state(self.it)
        for change in (lambda: self.it + ODD[0], lambda: self.it - 0, lambda: self.it | (), lambda: self.it ^ ("a",),
                       lambda: self.it.telling(), lambda: self.it.paper("a")):
            change()
            self.same(state(self.it), before)
        for refused in (lambda: self.it + None, lambda: self.it - None, lambda: self.it | None, lambda: self.it ^ None,
                        lambda: self.it["z"]):
            self.refusal(refused)
            self.same(state(self.it), before)
        for name in ("town_now", "fears_now", "run_now", "suspects_now", "kernel_now", "lied_now", "could_now",
                     "verdicts_now"):
            with self.assertRaises(AttributeError):
                setattr(self.it, name, ())
        self.same(state(self.it), state(Inquest(RING, EACH, ODD)))

    def test_iterated_over_twice_at_once(self):
        pairs = [(one, other) for one in self.it for other in self.it]
        self.same(pairs, [(one, other) for one in EACH for other in EACH])
        first, second = iter(self.it), iter(self.it)
        self.same((next(first), next(first), next(second), next(first)), (("a",), ("b",), ("a",), ("c",)))
        self.same(list(second), [("b",), ("c",)])
