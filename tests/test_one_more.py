"""Points [72] and [73]: what one letter more would tell."""

import random
from fractions import Fraction

from nearhours.onemore import hours_explained, nearest_after, worth_between
from nearhours.settings import nearest
from nearhours.suspects import suspects
from tests.support import (
    ALONE, EACH, LONG, ODD, ODDITIES, RING, TWO, WAY, Case, explained_inquests, parted_inquests, plain_suspects,
)
from tests.test_drifting import NONE, ONE, is_no_less

NO_LETTERS = ODDITIES + (("a", "b", 0), ("a", "b", 0, True), ("a", "z", 0, 1), ("a", "a", 0, 1), ["a", "b", 0, 1],
                         ("a", "b", 0, 1, 2), ODD)


def some_letters(seed, count):
    """Tuples of a town, fears, a run, and of one, other and sent of a letter that could come."""
    chance = random.Random(seed)
    cases = []
    for town, fears, run in explained_inquests(seed, count, (2, 3, 4), 7) + parted_inquests(seed + 1, count // 5):
        if town[1]:
            ends = list(chance.choice(town[1])[:2])
            chance.shuffle(ends)
            cases.append((town, fears, run, *ends, chance.randint(-3, 3)))
    return cases


class NearestAfter(Case):
    def test_against_the_longer_run(self):
        chance = random.Random(722)
        seen = {"refused": 0, "nearer": 0, "as before": 0}
        for town, fears, run, one, other, sent in some_letters(723, 250):
            letter = (one, other, sent, sent + chance.randint(-4, 5))
            if not plain_suspects(town, fears, (*run, letter)):
                self.not_usable("letter", -1, nearest_after, town, fears, run, letter)
                seen["refused"] += 1
                continue
            found = nearest_after(town, fears, run, letter)
            self.same(found, nearest(town, fears, (*run, letter)))
            self.same(found, nearest_after(letter=letter, run=run, fears=fears, town=town))
            self.assertTrue(is_no_less(nearest(town, fears, run), found))
            seen["as before" if found == nearest(town, fears, run) else "nearer"] += 1
        self.assertGreater(min(seen.values()), 10, seen)

    def test_refusals(self):
        for letter in NO_LETTERS:
            self.not_usable("letter", -1, nearest_after, RING, EACH, ODD, letter)
            # That it is none is told ahead of the run that nobody explains.
            self.not_usable("letter", -1, nearest_after, RING, NONE, ODD, letter)
        self.not_usable("letter", -1, nearest_after, WAY, NONE, (), ("a", "c", 0, 0))
        self.not_usable("run", -1, nearest_after, RING, NONE, ODD, ("a", "b", 0, 1))
        self.not_usable("run", -1, nearest_after, RING, NONE, ODD, ("a", "b", 0, LONG))
        self.not_usable("letter", -1, nearest_after, RING, NONE, ODD[:2], ODD[2])
        self.same(nearest_after(RING, EACH, ODD[:2], ODD[2]), (3, 1))


class HoursExplained(Case):
    def test_against_the_longer_run(self):
        chance = random.Random(724)
        seen = {"none": 0, "all": 0, "some": 0}
        for town, fears, run, one, other, sent in some_letters(725, 120):
            first = sent + chance.randint(-9, 4)
            last = first + chance.randint(0, 10)
            found = hours_explained(town, fears, run, one, other, sent, first, last)
            self.assertIsInstance(found, tuple)
            self.same(found, tuple(heard for heard in range(first, last + 1)
                                   if plain_suspects(town, fears, (*run, (one, other, sent, heard)))))
            if any(one in lot or other in lot for lot in suspects(town, fears, run)):
                self.assertEqual(len(found), last - first + 1)
            seen["none" if not found else "all" if len(found) == last - first + 1 else "some"] += 1
            self.worth(town, fears, run, (one, other, sent), found,
                       worth_between(town, fears, run, one, other, sent, first, last))
        self.assertGreater(min(seen.values()), 5, seen)

    def worth(self, town, fears, run, letter, hours, found):
        """What worth_between found is the least and the greatest nearness, None being greatest."""
        if not hours:
            return self.assertIsNone(found)
        told = [nearest_after(town, fears, run, (*letter, heard)) for heard in hours]
        known = [Fraction(*one) for one in told if one is not None]
        self.assertIs(type(found), tuple)
        least, greatest = found
        self.assertIn(least, told)
        self.assertIn(greatest, told)
        if None in told:
            self.assertIsNone(greatest)
        else:
            self.assertEqual(Fraction(*greatest), max(known))
        if known:
            self.assertEqual(Fraction(*least), min(known))
        else:
            self.assertIsNone(least)
        self.assertTrue(is_no_less(nearest(town, fears, run), greatest))
        return None

    def test_worth_of_none_and_of_fractions(self):
        self.same(worth_between(RING, NONE, ODD[:1], "a", "b", 0, -3, 3), (None, None))
        self.same(worth_between(RING, NONE, ODD[:1], "b", "c", 0, 0, 3), ((2, 1), (2, 1)))
        stiff = (("a", "b"), (("a", "b", 0, 0),))
        self.same(worth_between(stiff, (("a",),), (), "a", "b", 0, 0, 3), ((0, 1), (0, 1)))
        # Heard at -5, -4 or -3 the letter can be right, and who spoiled the others then leaves no tie.
        square = (("a", "b", "c", "d"), (("a", "b", 1, 2), ("a", "c", 0, 3), ("b", "d", 0, 1), ("c", "d", -1, 0)))
        run = (("a", "b", 3, 6), ("a", "b", 0, 3), ("d", "c", 1, 3), ("d", "b", -1, -4))
        self.same([nearest_after(square, EACH, run, ("c", "d", -1, heard)) for heard in (-6, -5, -3, -2)],
                  [(1, 1), None, None, (1, 1)])
        self.same(worth_between(square, EACH, run, "c", "d", -1, -6, -2), ((1, 1), None))
        self.same(worth_between(square, EACH, run, "c", "d", -1, -5, -3), (None, None))
        self.same(worth_between(square, EACH, run, "c", "d", -1, -3, 9), ((1, 1), None))

    def test_edges(self):
        self.same(hours_explained(TWO, NONE, ONE, "b", "a", 6, 7, 7), (7,))
        self.same(hours_explained(TWO, NONE, ONE, "b", "a", 6, 10, 41), ())
        self.same(worth_between(TWO, NONE, ONE, "b", "a", 6, 10, 41), None)
        self.same(hours_explained(TWO, NONE, (), "a", "b", 0, -16, 15), tuple(range(-16, 16)))
        self.same(hours_explained(TWO, (("a",),), ONE, "b", "a", 6, 0, 31), tuple(range(32)))
        self.same(worth_between(TWO, (("a",),), ONE, "b", "a", 6, 5, 31), ((0, 1), (1, 1)))
        self.same(worth_between(TWO, NONE, ONE, "b", "a", 6, 7, 7), ((1, 1), (1, 1)))
        self.same(worth_between(TWO, NONE, (), "a", "b", LONG, LONG, LONG + 31), ((1, 1), (1, 1)))
        self.same(hours_explained(last=8, first=3, sent=6, other="a", one="b", run=ONE, fears=NONE, town=TWO),
                  (5, 6, 7, 8))

    def test_refusals(self):
        for call in (hours_explained, worth_between):
            for one in (None, True, 0, "", "z", ("a",), ["a"], "ab"):
                self.not_usable("one", one, call, RING, NONE, ODD, one, "z", 0, 5, 0)
                self.not_usable("other", one, call, RING, NONE, ODD, "a", one, 0, 5, 0)
            self.not_usable("other", "a", call, RING, NONE, ODD, "a", "a", 0, 5, 0)
            self.not_usable("other", "c", call, WAY, NONE, (), "a", "c", 0, 5, 0)
            self.not_usable("other", "a", call, WAY, NONE, (), "c", "a", 0, 0, 5)
            self.not_usable("last", 4, call, RING, NONE, ODD, "a", "b", 0, 5, 4)
            self.not_usable("last", -LONG, call, RING, EACH, ODD, "a", "b", 0, 0, -LONG)
            self.not_usable("run", -1, call, RING, NONE, ODD, "a", "b", 0, 5, 5)
            self.not_usable("one", "b", call, ALONE, NONE, (), "b", "b", 0, 5, 0)
            for town in ODDITIES:
                self.not_usable("town", -1, call, town, None, None, None, None, 0, 5, 0)
            self.not_usable("fears", -1, call, RING, (), None, None, None, 0, 5, 0)
            self.not_usable("run", -1, call, RING, EACH, None, None, None, 0, 5, 0)
