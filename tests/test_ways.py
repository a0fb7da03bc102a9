"""Points [22] to [24], [28], [29] and (O1): ties, ways, chains, gains, and all ways at once."""

import itertools

from nearhours.clashes import clash
from nearhours.ties import ties_of
from nearhours.waycourses import Ways
from nearhours.ways import chain_of, way
from nearhours.worlds import do_fit, does_explain, some_gains
from tests.support import (
    ALONE, LONG, ODD, ODDITIES, RING, SIXTY, TWO, WAY, Case, all_chains, all_rings, lots_of, plain_ties,
    plainly_fit, some_cases,
)

FAR = 12


def explained_cases(seed, count, towers=(1, 2, 3), letters=4):
    """Triples of a town, a run and a lot that explains it."""
    return [
        (town, run, lot) for town, run in some_cases(seed, count, towers, letters)
        for lot in lots_of(town[0]) if does_explain(town, run, lot)
    ]


def outside(town, lot):
    return tuple(tower for tower in town[0] if tower not in lot)


def all_gains(towers):
    """All gains from -FAR to FAR, that of the first tower being 0: as far as small ties can reach."""
    if not towers:
        return [()]
    return [(0, *rest) for rest in itertools.product(range(-FAR, FAR + 1), repeat=len(towers) - 1)]


class Ties(Case):
    def test_both_directions(self):
        run = (("b", "c", 10, 4), ("a", "b", 0, 0), ("c", "b", 1, 2))
        told = (("b", "c", -5, 0), ("c", "b", 9, 0), ("a", "b", -1, 1), ("b", "a", 1, 1), ("c", "b", 2, 2),
                ("b", "c", 2, 2))
        self.same(ties_of(WAY, run, ()), told)
        self.same(ties_of(town=WAY, run=run, lot=("a",)), told[:2] + told[4:])
        self.same(ties_of(WAY, run, ("b",)), ())
        self.same(ties_of(ALONE, (), ()), ())
        self.same(ties_of(TWO, (("a", "b", 5, 6),) * 2, ()),
                  (("a", "b", 1, 0), ("b", "a", 1, 0), ("a", "b", 1, 1), ("b", "a", 1, 1)))

    def test_they_are_as_defined(self):
        for town, run in some_cases(22, 60, (2, 3, 4)):
            for lot in lots_of(town[0]):
                ties = ties_of(town, run, lot)
                self.same(ties, tuple(plain_ties(town, run, lot)))
                for forth, back in zip(ties[::2], ties[1::2]):
                    low, high = [wire[2:] for wire in town[1] if set(wire[:2]) == set(forth[:2])][0]
                    self.assertEqual(forth[2] + back[2], high - low)
                    self.assertEqual(forth[1], run[forth[3]][1])


class WaysBetween(Case):
    def test_none_without_letters(self):
        self.assertIsNone(way(TWO, (), (), "a", "b"))
        self.assertIsNone(chain_of(TWO, (), (), "a", "b"))

    def test_the_least_tie_counts(self):
        run = (("a", "b", 0, 2), ("a", "b", 0, 1), ("b", "a", 0, 0))
        self.same(way(TWO, run, (), "a", "b"), 1)
        self.same(chain_of(town=TWO, run=run, lot=(), one="a", other="b"), ((1, "b"),))
        self.same(way(town=TWO, run=run, lot=(), one="b", other="a"), 0)
        self.assertIn(chain_of(TWO, run, (), "b", "a"), (((0, "a"),), ((2, "a"),)))

    def test_many_digits(self):
        run = (("a", "b", -SIXTY, SIXTY), ("b", "c", LONG, 0))
        self.same(way(RING, run, (), "a", "c"), 2 * SIXTY - LONG)
        self.same(way(RING, run, (), "c", "a"), 4 - 2 * SIXTY + LONG)
        self.assertTrue(do_fit(RING, run, (), some_gains(RING, run, ())))

    def test_least_sums_of_chains(self):
        for town, run, lot in explained_cases(1, 60, (2, 3, 4), 6):
            ties = plain_ties(town, run, lot)
            table = {(k, other): (one, most) for one, other, most, k in ties}
            for one in outside(town, lot):
                chains = all_chains(ties, one)
                for other in outside(town, lot):
                    if other == one:
                        continue
                    sums = [total for _, end, total in chains if end == other]
                    found = way(town, run, lot, one, other)
                    self.same(found, min(sums, default=None))
                    self.look_at(chain_of(town, run, lot, one, other), table, one, other, found)

    def look_at(self, steps, table, one, other, total):
        """The steps are a chain from one to other with this sum, None if there is none."""
        if total is None:
            self.assertIsNone(steps)
            return
        self.assertIsInstance(steps, tuple)
        for step in steps:
            self.assertIs(type(step), tuple)
            begin, most = table[step]
            self.assertEqual(begin, one)
            one, total = step[1], total - most
        self.assertEqual((one, total), (other, 0))

    def test_greatest_amounts_in_gains(self):
        for town, run, lot in explained_cases(2, 25):
            towers = outside(town, lot)
            fitting = [gains for gains in all_gains(towers) if plainly_fit(town, run, lot, gains)]
            self.assertTrue(fitting)
            for j, k in itertools.permutations(range(len(towers)), 2):
                told = way(town, run, lot, towers[j], towers[k])
                if told is not None:
                    amounts = {gains[k] - gains[j] for gains in fitting}
                    back = way(town, run, lot, towers[k], towers[j])
                    self.assertEqual(amounts, set(range(-back, told + 1)))
                else:
                    moved = [FAR * (tower in part_of(town, run, lot, towers[k])) for tower in towers]
                    more = tuple(gain + move for gain, move in zip(fitting[0], moved))
                    self.assertTrue(plainly_fit(town, run, lot, more))


def part_of(town, run, lot, tower):
    """The towers that hang together with this one by letters."""
    part = {tower}
    while True:
        more = {end for one, other, _, _ in plain_ties(town, run, lot) if one in part for end in (one, other)}
        if more <= part:
            return part
        part |= more


class Worlds(Case):
    def test_edges(self):
        self.same(some_gains(TWO, (), ("a", "b")), ())
        self.same(do_fit(TWO, (), ("a", "b"), ()), True)
        self.assertTrue(do_fit(ALONE, (), (), (LONG,)))
        self.assertEqual(len(some_gains(ALONE, (), ())), 1)
        alone = (("a", "b", 0, 0), ("a", "b", 0, 3))
        self.assertIs(does_explain(TWO, alone, ()), False)
        self.assertIsNone(some_gains(TWO, alone, ()))
        for lot in (("a",), ("b",), ("a", "b")):
            self.assertIs(does_explain(town=TWO, run=alone, lot=lot), True)
            self.assertTrue(do_fit(TWO, alone, lot, some_gains(town=TWO, run=alone, lot=lot)))

    def test_bounds_are_both_kept(self):
        for late in range(-2, 5):
            run = (("a", "b", 0, late),)
            self.assertIs(do_fit(TWO, run, (), (0, 0)), 0 <= late <= 2)
            self.assertIs(do_fit(TWO, run, (), (1, 0)), 0 <= late + 1 <= 2)
            self.assertIs(do_fit(town=TWO, run=run, lot=(), gains=(0, 1)), 0 <= late - 1 <= 2)

    def test_equal_bounds(self):
        run = (("a", "b", 0, 8),)
        self.assertTrue(do_fit(WAY, run, (), (0, 7, 50)))
        self.assertFalse(do_fit(WAY, run, (), (0, 6, 50)))
        self.assertFalse(do_fit(WAY, run, (), (0, 8, 50)))
        self.same((way(WAY, run, (), "a", "b"), way(WAY, run, (), "b", "a")), (7, -7))

    def test_gains_of_wrong_kinds(self):
        for gains in (None, True, (), (0,), (0, 0, 0), [0, 0], (0, True), (False, 0), (0, "0"), (0, None), ((0,), 0)):
            self.not_usable("gains", -1, do_fit, RING, ODD, ("a",), gains)
        self.not_usable("gains", -1, do_fit, TWO, (), ("a", "b"), (0,))

    def test_against_all_gains(self):
        for town, run in some_cases(24, 60):
            for lot in lots_of(town[0]):
                fitting = [gains for gains in all_gains(outside(town, lot)) if plainly_fit(town, run, lot, gains)]
                self.assertIs(does_explain(town, run, lot), bool(fitting))
                gains = some_gains(town, run, lot)
                self.assertEqual(gains is None, not fitting)
                if fitting:
                    self.assertIs(do_fit(town, run, lot, gains), True)
                    self.assertTrue(plainly_fit(town, run, lot, gains))
                for gains in all_gains(outside(town, lot))[::37]:
                    self.assertIs(do_fit(town, run, lot, gains), gains in fitting)


class Guarantee(Case):
    def test_a_tower_of_each_clashing_ring(self):
        for town, run in some_cases(9, 80, (2, 3, 4), 6):
            clashing = [towers for towers, total in all_rings(town, run) if total < 0]
            for lot in lots_of(town[0]):
                hit = all([towers & set(lot) for towers in clashing])
                self.assertIs(does_explain(town, run, lot), hit)
                self.assertEqual(clash(town, run, lot) is None, hit)


class Consequences(Case):
    def test_more_in_the_lot(self):
        for town, run, lot in explained_cases(29, 60, (2, 3, 4)):
            for tower in outside(town, lot):
                more = tuple(sorted((*lot, tower)))
                self.assertTrue(does_explain(town, run, more))
                for one, other in itertools.permutations(outside(town, more), 2):
                    ahead, found = way(town, run, lot, one, other), way(town, run, more, one, other)
                    self.assertTrue(found is None or found >= ahead)

    def test_ways_by_way_of_others(self):
        for town, run, lot in explained_cases(30, 60, (2, 3, 4), 6):
            ways = {(one, other): told for one, other, told in Ways(town, run, lot)}
            for (one, other), told in ways.items():
                self.assertGreaterEqual(told + ways[other, one], 0)
                for third in outside(town, lot):
                    if (other, third) in ways and third != one:
                        self.assertLessEqual(ways[one, third], told + ways[other, third])

    def test_all_gains_moved(self):
        for town, run, lot in explained_cases(31, 40):
            gains = some_gains(town, run, lot)
            for move in (-3, 1, LONG):
                self.assertTrue(do_fit(town, run, lot, tuple(gain + move for gain in gains)))


class AllWays(Case):
    def test_as_asked_one_by_one(self):
        for town, run, lot in explained_cases(28, 60, (1, 2, 3, 4), 6):
            ways, towers = Ways(town, run, lot), outside(town, lot)
            self.same(ways.outside_now, towers)
            self.assertTrue(do_fit(town, run, lot, ways.gains_now))
            rows = []
            for one, other in itertools.permutations(towers, 2):
                told = way(town, run, lot, one, other)
                self.same(ways.way_between(one, other), told)
                self.same(ways.chain_between(one, other), chain_of(town, run, lot, one, other))
                if told is not None:
                    rows.append((one, other, told))
            self.same(list(ways), sorted(rows))
            self.same(len(ways), len(rows))
            parts = {tuple(sorted(part_of(town, run, lot, tower))) for tower in towers}
            self.same(ways.parts_now, tuple(sorted(parts)))
            for part in parts:
                for one, other in itertools.permutations(towers, 2):
                    if one in part:
                        self.assertEqual(ways.way_between(one, other) is not None, other in part)

    def test_edges(self):
        none = Ways(town=TWO, run=(), lot=("a", "b"))
        self.same((none.outside_now, none.gains_now, none.parts_now, len(none), list(none)), ((), (), (), 0, []))
        self.assertTrue(() in none)
        alone = Ways(ALONE, (), ())
        self.same((alone.outside_now, alone.parts_now, len(alone)), (("a",), (("a",),), 0))
        self.assertTrue((LONG,) in alone)

    def test_gains_in_it(self):
        ways = Ways(TWO, (("a", "b", 5, 6),), ())
        for gains in ((0, 0), (10, 9), (10, 11), (-LONG, 1 - LONG)):
            self.assertTrue(gains in ways)
        wrong = ((0, 2), (2, 0), (0, True), (False, 0), [0, 0], (0,), (0, 0, 0), ("a", "b"), ways)
        for thing in wrong + tuple(thing for thing in ODDITIES if thing != (1, 2)):
            self.assertFalse(thing in ways, thing)

    def test_equal(self):
        ways = Ways(TWO, (("a", "b", 5, 6),), ())
        self.assertIs(ways == Ways(TWO, (("b", "a", 1, 2), ("a", "b", 0, 1)), ()), True)
        self.assertIs(ways == Ways(WAY, (("a", "b", 0, 1),), ("c",)), False)
        wider = (("a", "b"), (("a", "b", -1, 1),))
        self.assertIs(ways == Ways(wider, (("a", "b", 0, 0),), ()), True)
        self.assertIs(Ways(RING, (), ("a",)) == Ways(RING, (), ("b",)), False)
        self.assertIs(ways == Ways(TWO, (("a", "b", 5, 7),), ()), False)
        for other in (tuple(ways), list(ways)) + ODDITIES:
            self.assertIs(ways == other, False)
            self.assertIs(ways != other, True)

    def test_refused(self):
        ways = Ways(RING, ODD, ("b",))
        for call in (ways.way_between, ways.chain_between):
            for thing in (None, True, 0, "z", "b", ["a"]):
                self.not_usable("one", thing, call, thing, "a")
                self.not_usable("one", thing, call, one=thing, other=thing)
                self.not_usable("other", thing, call, "a", thing)
            self.not_usable("other", "a", call, one="a", other="a")
        self.not_usable("lot", -1, Ways, RING, ODD, ())

    def test_it_never_changes(self):
        ways = Ways(RING, ODD[:2], ())
        rows = list(ways)
        self.same([(x, y) for x in ways for y in ways], [(x, y) for x in rows for y in rows])
        first, second = iter(ways), iter(ways)
        told = [next(first), next(first), next(second), next(first), next(second)]
        self.same(told, [rows[0], rows[1], rows[0], rows[2], rows[1]])
        for name in ("outside_now", "gains_now", "parts_now"):
            self.same(getattr(ways, name), getattr(ways, name))
            with self.assertRaises(AttributeError):
                setattr(ways, name, ())
        self.same(ways.chain_between("a", "c"), ways.chain_between("a", "c"))
        self.same(list(ways), rows)
        self.assertEqual(ways, Ways(RING, ODD[:2], ()))
