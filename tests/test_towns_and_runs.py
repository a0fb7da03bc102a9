"""Points [12] to [16]: towns, their parts, and runs."""

from nearhours.runchecker import lets_run
from nearhours.runs import is_full, letters_of, moved_run, true_run
from nearhours.townchecker import lets_town
from nearhours.townparts import neighbors, widest, wire_of
from nearhours.worlds import do_fit, does_explain, some_gains
from tests.support import (
    ALONE, LONG, ODD, ODDITIES, RING, SIXTY, TWO, WAY, Case, lots_of, plainly_fit, some_cases,
)

NAMES = tuple(sorted(a + b for a in "abcdefghij" for b in "abcdefghij"))


class Towns(Case):
    def town(self, *wires):
        return ("a", "b", "c"), wires

    def test_right_ones(self):
        self.assertEqual(lets_town(ALONE), 0)
        self.assertEqual(lets_town(thing=TWO), 1)
        self.assertEqual(lets_town((("a", "b", "c"), ())), 0)
        self.assertEqual(lets_town(self.town(("a", "b", -5, -5))), 1)
        self.assertEqual(lets_town(self.town(("a", "b", -5, -4), ("b", "c", -LONG, LONG))), 2)

    def test_limits_are_ignored(self):
        wires = tuple((NAMES[0], name, 0, 1) for name in NAMES[1:])
        self.assertEqual(lets_town((NAMES, wires)), 99)

    def test_shape(self):
        for thing in ODDITIES:
            if not isinstance(thing, tuple) or len(thing) != 2:
                self.invalid("shape", -1, lets_town, thing)
        self.invalid("shape", -1, lets_town, list(TWO))
        self.invalid("shape", -1, lets_town, (*TWO, ()))
        self.invalid("shape", -1, lets_town, (("b", "a"),))

    def test_towers(self):
        for towers in ((), ["a"], ("b", "a"), ("a", "a"), ("A",), "a", None, (True,), ("a", 1)):
            self.invalid("towers", -1, lets_town, (towers, ()))
            self.invalid("towers", -1, lets_town, (towers, None))

    def test_wires(self):
        for wires in (None, [], "ab", True, 0, [("a", "b", 0, 1)]):
            self.invalid("wires", -1, lets_town, (("a", "b"), wires))

    def test_wire(self):
        wrong = (
            None, True, "ab", (), ("a", "b", 0), ("a", "b", 0, 1, 2), ["a", "b", 0, 1],
            ("b", "a", 0, 1), ("a", "a", 0, 1), ("a", "d", 0, 1), ("d", "a", 0, 1), (0, 1, 0, 1),
            ("a", True, 0, 1), (["a"], "b", 0, 1), ("a", "b", True, 1), ("a", "b", 0, True),
            ("a", "b", None, 1), ("a", "b", 0, "1"), ("a", "b", (0,), 1),
        )
        for wire in wrong:
            self.invalid("wire", 0, lets_town, self.town(wire))
            self.invalid("wire", 1, lets_town, self.town(("a", "b", 0, 1), wire))

    def test_width(self):
        self.invalid("width", 0, lets_town, self.town(("a", "b", 1, 0)))
        self.invalid("width", 1, lets_town, self.town(("a", "b", 0, 0), ("a", "c", -1, -2)))

    def test_order(self):
        wrong = (
            (("a", "b", 0, 1), ("a", "b", 0, 1)), (("a", "b", 0, 1), ("a", "b", 2, 3)),
            (("a", "c", 0, 1), ("a", "b", 5, 6)), (("b", "c", 0, 1), ("a", "c", 5, 6)),
        )
        for wires in wrong:
            self.invalid("order", 1, lets_town, self.town(*wires))

    def test_the_first_entry_counts(self):
        self.invalid("towers", -1, lets_town, (("b", "a"), (("a", "z", 2, 1),)))
        self.invalid("wire", 0, lets_town, self.town(("b", "a", 2, 1)))
        self.invalid("wire", 1, lets_town, self.town(("b", "c", 0, 1), ("b", "a", 2, 1)))
        self.invalid("width", 1, lets_town, self.town(("a", "b", 0, 1), ("a", "b", 2, 1)))
        self.invalid("width", 0, lets_town, self.town(("a", "b", 1, 0), None))
        wires = (("a", "c", 0, 1), ("a", "b", 0, 1), ("a", "b", 1, 0), None)
        self.invalid("order", 1, lets_town, self.town(*wires))


class Parts(Case):
    def test_wire_of(self):
        for town in (TWO, RING, WAY):
            for one, other, low, high in town[1]:
                self.same(wire_of(town, one, other), (low, high))
                self.same(wire_of(town=town, one=other, other=one), (low, high))
        self.assertIsNone(wire_of(WAY, "a", "c"))
        self.assertIsNone(wire_of((("a", "b"), ()), "b", "a"))

    def test_neighbors(self):
        self.same(neighbors(WAY, "a"), ("b",))
        self.same(neighbors(town=RING, tower="c"), ("a", "b"))
        self.same(neighbors(ALONE, "a"), ())
        star = ("a", "b", "c", "d"), (("a", "c", 0, 0), ("b", "c", 0, 0), ("c", "d", 0, 0))
        self.same(neighbors(star, "c"), ("a", "b", "d"))

    def test_widest(self):
        self.same(widest(RING), 2)
        self.same(widest(town=(("a", "b"), (("a", "b", -LONG, LONG),))), 2 * LONG)
        self.same(widest((("a", "b"), (("a", "b", -7, -7),))), 0)
        self.same(widest((("a", "b", "c"), (("a", "b", -9, -4), ("b", "c", 50, 52)))), 5)

    def test_neighbors_are_mutual(self):
        for town, _ in some_cases(16, 60, (1, 2, 3, 4)):
            for one in town[0]:
                self.assertNotIn(one, neighbors(town, one))
                for other in town[0]:
                    if one != other:
                        joined = wire_of(town, one, other) is not None
                        self.assertEqual(other in neighbors(town, one), joined)
                        self.assertEqual(one in neighbors(town, other), joined)


class Runs(Case):
    def test_right_ones(self):
        self.assertEqual(lets_run(TWO, ()), 0)
        self.assertEqual(lets_run(ALONE, ()), 0)
        self.assertEqual(lets_run(town=RING, thing=ODD), 3)
        self.assertEqual(lets_run(TWO, (("b", "a", 5, -7),) * 40), 40)
        self.assertEqual(lets_run(TWO, (("a", "b", LONG, -LONG),)), 1)

    def test_shape(self):
        for thing in (None, True, 0, "ab", [], list(ODD)):
            self.invalid("shape", -1, lets_run, RING, thing)

    def test_letters(self):
        wrong = (
            ("letter", (None, True, "abcd", (), ("a", "b", 0), ("a", "b", 0, 1, 2), ["a", "b", 0, 1])),
            ("towers", (("a", "z", 0, 1), ("z", "a", 0, 1), (0, "a", 0, 1), ("a", ["b"], 0, 1),
                        ("a", "", 0, 1), (True, None, 0, 1), (("a",), "b", 0, 1))),
            ("wire", (("a", "c", 0, 1), ("c", "a", 0, 1), ("a", "a", 0, 1))),
            ("hours", (("a", "b", True, 1), ("b", "a", 0, False), ("a", "b", "0", 1), ("a", "b", 0, None),
                       ("a", "b", (0,), 1))),
        )
        for word, letters in wrong:
            for letter in letters:
                self.invalid(word, 0, lets_run, WAY, (letter,))
                self.invalid(word, 1, lets_run, WAY, (("a", "b", 0, 1), letter, letter))

    def test_the_first_entry_counts(self):
        self.invalid("letter", 0, lets_run, WAY, (("z", "z", None), ("z", "z", 0, 0)))
        self.invalid("towers", 0, lets_run, WAY, (("a", "z", None, True), None))
        self.invalid("wire", 0, lets_run, WAY, (("a", "c", None, True), None))
        self.invalid("hours", 0, lets_run, WAY, (("a", "b", None, True), None))
        self.invalid("wire", 1, lets_run, WAY, (("b", "c", 0, 1), ("c", "a", True, 0), None))

    def test_true_run(self):
        self.same(true_run(ALONE, (7,), ()), ())
        self.same(true_run(town=TWO, gains=(3, 10), lates=(2,)), (("a", "b", 0, 9),))
        self.same(true_run(WAY, (0, 0, 5), (1, -1)), (("a", "b", 0, 1), ("b", "c", 0, 4)))
        self.same(true_run(TWO, (-LONG, LONG), (0,)), (("a", "b", 0, 2 * LONG),))

    def test_true_run_refuses(self):
        for gains in (None, (), (0,), (0, 0, 0), [0, 0], (0, True), (0, "0"), (0, None)):
            self.not_usable("gains", -1, true_run, TWO, gains, (0,))
        for lates in (None, (), (0, 0), [0], (True,), (-1,), (3,), ("0",)):
            self.not_usable("lates", -1, true_run, TWO, (0, 0), lates)
        self.not_usable("lates", -1, true_run, WAY, (0, 0, 0), (1, 4))
        self.not_usable("lates", -1, true_run, WAY, (0, 0, 0), (0, 0))

    def test_is_full(self):
        self.assertIs(is_full(ALONE, ()), True)
        self.assertIs(is_full(TWO, ()), False)
        self.assertIs(is_full(town=TWO, run=(("b", "a", 0, 99),)), True)
        self.assertIs(is_full(TWO, (("a", "b", 0, 99), ("b", "a", 0, 0))), True)
        self.assertIs(is_full(RING, ODD[1:] * 3), False)

    def test_letters_of(self):
        self.same(letters_of(RING, ODD, ()), ODD)
        self.same(letters_of(town=RING, run=ODD[::-1] + ODD, lot=("a",)), (ODD[1], ODD[1]))
        self.same(letters_of(RING, ODD, ("a", "b")), ())
        self.same(letters_of(RING, (), ("a",)), ())

    def test_moved_run(self):
        self.same(moved_run(RING, (), (1, 2, 3)), ())
        run = (("c", "a", 5, 7), ("a", "c", -1, 0), ("c", "a", 5, 7))
        told = (("c", "a", 15, 6), ("a", "c", -2, 10), ("c", "a", 15, 6))
        self.same(moved_run(town=RING, run=run, gains=(-1, 99, 10)), told)
        for gains in (None, (), (0, 0), (0, 0, 0, 0), [0, 0, 0], (0, 0, True), (0, 0, "0")):
            self.not_usable("gains", -1, moved_run, RING, ODD, gains)

    def test_numbers_of_many_digits(self):
        run = true_run(TWO, (SIXTY, -SIXTY), (1,))
        self.same(run, (("a", "b", 0, 1 - 2 * SIXTY),))
        self.same(moved_run(TWO, run, (-SIXTY, SIXTY)), (("a", "b", -SIXTY, 1 - SIXTY),))


class Consequences(Case):
    def test_true_run(self):
        for seed, (town, _) in enumerate(some_cases(15, 60, (1, 2, 3, 4))):
            gains = tuple((seed * (k + 3)) % 11 - 5 for k in range(len(town[0])))
            lates = tuple(low + seed % (high - low + 1) for _, _, low, high in town[1])
            run = true_run(town, gains, lates)
            self.assertTrue(do_fit(town, run, (), gains))
            self.assertTrue(does_explain(town, run, ()))
            self.assertTrue(is_full(town, run))
            self.assertEqual(lets_run(town, run), len(town[1]))

    def test_letters_of_and_moved_run(self):
        for seed, (town, run) in enumerate(some_cases(14, 80)):
            moves = tuple((seed * (k + 2)) % 7 - 3 for k in range(len(town[0])))
            moved = moved_run(town, run, moves)
            self.assertEqual(moved_run(town, moved, tuple(-move for move in moves)), run)
            for lot in lots_of(town[0]):
                left = letters_of(town, run, lot)
                self.assertEqual(does_explain(town, run, lot), does_explain(town, left, lot))
                gains = some_gains(town, left, lot) or tuple(0 for tower in town[0] if tower not in lot)
                fit = plainly_fit(town, run, lot, gains)
                self.assertEqual(do_fit(town, run, lot, gains), fit)
                self.assertEqual(do_fit(town, left, lot, gains), fit)
                table = dict(zip(town[0], moves))
                outside = [tower for tower in town[0] if tower not in lot]
                more = tuple(gain + table[tower] for tower, gain in zip(outside, gains))
                self.assertEqual(do_fit(town, moved, lot, more), fit)
