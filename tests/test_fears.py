"""Points [30] to [32]: fears, and which lots are feared."""

from nearhours.fearchecker import lets_fears
from nearhours.fears import feared_lots, greatest_fears, is_feared
from tests.support import ALONE, EACH, ODDITIES, RING, TWO, Case, lots_of

FOUR = (("a", "b", "c", "d"), ())
WRONG_LOTS = (None, True, 0, "a", "", ["a"], [], ("z",), ("b", "a"), ("a", "a"), (1,), (True,), (("a",),), ("a", None))


def some_fears(towers):
    """Many fears of these towers: each one to three lots that stand behind one another."""
    lots = sorted(lots_of(towers))
    found = [(lot,) for lot in lots]
    found += [(lots[j], lots[k]) for j in range(len(lots)) for k in range(j + 1, len(lots))]
    return found + [tuple(lots[k:k + 3]) for k in range(len(lots) - 2)] + [tuple(lots)]


class Checker(Case):
    def test_right_ones(self):
        self.assertEqual(lets_fears(ALONE, ((),)), 1)
        self.assertEqual(lets_fears(town=ALONE, thing=((), ("a",))), 2)
        self.assertEqual(lets_fears(RING, (("a", "b", "c"),)), 1)
        for fears in some_fears(FOUR[0]):
            self.assertEqual(lets_fears(FOUR, fears), len(fears))

    def test_shape(self):
        for thing in (None, True, 0, "a", "", (), [], [()], list(EACH)):
            self.invalid("shape", -1, lets_fears, RING, thing)

    def test_lot(self):
        for lot in WRONG_LOTS:
            self.invalid("lot", 0, lets_fears, RING, (lot,))
            self.invalid("lot", 1, lets_fears, RING, ((), lot, None))
        self.invalid("lot", 0, lets_fears, RING, ("a", "b"))
        self.invalid("lot", 0, lets_fears, TWO, EACH[2:])

    def test_order(self):
        for fears in ((("a",), ()), (("a",), ("a",)), (("a", "b"), ("a",)), (("b",), ("a", "c")), ((), ())):
            self.invalid("order", 1, lets_fears, RING, fears)

    def test_the_first_entry_counts(self):
        self.invalid("lot", 1, lets_fears, RING, (("b",), ("b", "a"), ("a",)))
        self.invalid("order", 1, lets_fears, RING, (("b",), ("a",), None))
        self.invalid("lot", 0, lets_fears, RING, (("z",), ("a",)))
        self.invalid("order", 2, lets_fears, RING, (("a",), ("b",), ("b",), ("a",)))


class Fears(Case):
    def test_is_feared(self):
        self.assertIs(is_feared(town=RING, fears=(("a", "b"),), lot=("b",)), True)
        self.assertIs(is_feared(RING, EACH, ("a", "b")), False)
        self.assertIs(is_feared(RING, ((),), ()), True)
        self.assertIs(is_feared(RING, ((),), ("a",)), False)
        self.assertIs(is_feared(RING, (("a", "b"),), ("a", "b", "c")), False)

    def test_against_the_definition(self):
        for fears in some_fears(FOUR[0]):
            feared = [lot for lot in sorted(lots_of(FOUR[0])) if any(set(lot) <= set(told) for told in fears)]
            self.same(feared_lots(FOUR, fears), tuple(feared))
            for lot in lots_of(FOUR[0]):
                self.assertIs(is_feared(FOUR, fears, lot), lot in feared)
            greatest = [lot for lot in feared if not any(set(lot) < set(more) for more in feared)]
            self.same(greatest_fears(FOUR, fears), tuple(greatest))

    def test_sets_are_ascending(self):
        fears = ((), ("a", "b", "c"), ("b", "d"), ("d",))
        self.same(greatest_fears(town=FOUR, fears=fears), (("a", "b", "c"), ("b", "d")))
        told = ((), ("a",), ("a", "b"), ("a", "b", "c"), ("a", "c"), ("b",), ("b", "c"), ("b", "d"), ("c",), ("d",))
        self.same(feared_lots(town=FOUR, fears=fears), told)

    def test_refused(self):
        for fears in ((), None, [()], (("b",), ("a",)), (("z",),)):
            for call in (feared_lots, greatest_fears):
                self.not_usable("fears", -1, call, RING, fears)
            self.not_usable("fears", -1, is_feared, RING, fears, None)
        for lot in WRONG_LOTS:
            self.not_usable("lot", -1, is_feared, RING, EACH, lot)
        for town in ODDITIES:
            for call in (feared_lots, greatest_fears):
                self.not_usable("town", -1, call, town, None)
            self.not_usable("town", -1, is_feared, town, None, None)
