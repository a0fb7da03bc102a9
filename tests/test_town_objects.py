"""Points [19] and [20]: towns as objects."""

from nearhours.towns import Town
from nearhours.townparts import neighbors, wire_of
from nearhours.towntexts import town_text
from tests.support import ALONE, LONG, ODDITIES, RING, TWO, WAY, Case, some_cases

WIRE = ("a", "b", 0, 2)
NO_WIRES = (None, True, 0, "ab", (), ("a", "b"), ("a", "b", 0), ["a", "b", 0, 2], ("b", "a", 0, 2),
            ("a", "a", 0, 2), ("a", "z", 0, 2), ("a", "b", 2, 0), ("a", "b", False, 2),
            ("a", "b", 0, True), (["a"], "b", 0, 2), ("a", "b", "0", 2), ("a", "b", 0, 2, 3))


class Making(Case):
    def test_wires_in_whatever_order(self):
        one = Town(RING[0], *RING[1][::-1])
        self.same(one.town_now, RING)
        self.same((one.towers_now, one.wires_now), RING)
        self.same(Town(towers=("a",)).town_now, ALONE)

    def test_towers(self):
        for towers in (None, True, (), ["a"], ("b", "a"), ("a", "a"), ("A",), "a", (1,)):
            self.not_usable("towers", -1, Town, towers)
            self.not_usable("towers", -1, Town, towers, None)

    def test_wires(self):
        for wire in NO_WIRES:
            self.not_usable("wires", 0, Town, ("a", "b"), wire)
            self.not_usable("wires", 1, Town, ("a", "b", "c"), ("b", "c", 0, 1), wire, None)
        self.not_usable("wires", 1, Town, ("a", "b"), WIRE, WIRE)
        self.not_usable("wires", 2, Town, RING[0], WIRE, ("a", "c", 0, 1), ("a", "b", 5, 6))
        self.not_usable("wires", 1, Town, RING[0], WIRE, WIRE, None)
        self.not_usable("wires", 1, Town, RING[0], WIRE, None, WIRE)

    def test_of(self):
        for town in (ALONE, TWO, RING, WAY):
            self.same(Town.of(town).town_now, town)
            self.assertIsInstance(Town.of(town=town), Town)
        self.invalid("shape", -1, Town.of, None)
        self.invalid("towers", -1, Town.of, ((), ()))
        self.invalid("order", 1, Town.of, (RING[0], RING[1][1::-1]))
        self.invalid("wire", 0, Town.of, (("a", "b"), (("a", "b", 0, True),)))
        self.invalid("shape", -1, Town.of, Town.of(TWO))

    def test_read(self):
        self.assertEqual(Town.read(town_text(WAY)), Town.of(WAY))
        self.assertEqual(Town.read(text="tower a").town_now, ALONE)
        self.not_usable("text", -1, Town.read, None)
        self.refuses("InvalidText", {"line": 1, "field": 0}, Town.read, "tower a\n")

    def test_it_never_changes(self):
        one = Town.of(RING)
        for name in ("town_now", "towers_now", "wires_now"):
            with self.assertRaises(AttributeError):
                setattr(one, name, ())
        less = one - WIRE
        others = (less, less + WIRE, one | less, one.without("a"), one.called(("a", "z")))
        self.assertEqual(len(others), 5)
        for wrong in (None, WIRE):
            self.not_usable("wire", -1, one.__add__, wrong)
        self.same(one.town_now, RING)


class Asking(Case):
    def test_parts(self):
        for town in (ALONE, TWO, RING, WAY):
            one = Town.of(town)
            for tower in town[0]:
                self.same(one[tower], neighbors(town, tower))
                for other in town[0]:
                    if other != tower:
                        self.same(one(tower, other), wire_of(town, tower, other))
        self.same(Town.of(TWO)(first="b", second="a"), (0, 2))

    def test_parts_refused(self):
        one = Town.of(WAY)
        for thing in (None, True, 0, "", "z", ("a",), ["a"], one):
            self.assertIs(self.refusal(one.__getitem__, thing)[1]["at"], thing)
            self.not_usable("tower", thing, one.__getitem__, thing)
            self.not_usable("one", thing, one, thing, "a")
            self.not_usable("one", thing, one, thing, thing)
            self.not_usable("other", thing, one, "a", thing)
        self.not_usable("other", "a", one, "a", "a")
        self.not_usable("one", "z", one, "z", "z")

    def test_wires_in_it(self):
        one = Town.of(RING)
        for wire in RING[1]:
            self.assertTrue(wire in one)
        others = (("a", "b", 0, 1), ("a", "b", False, 2), ("b", "a", 0, 2), ["a", "b", 0, 2], ("a", "b"), "a")
        for thing in others + ODDITIES + (one, RING, RING[1]):
            self.assertFalse(thing in one, thing)
        self.assertFalse(("a", "b", 0, True) in Town(("a", "b"), ("a", "b", 0, 1)))

    def test_towers_in_order(self):
        one = Town.of(RING)
        self.assertEqual((len(one), list(one)), (3, ["a", "b", "c"]))
        self.assertEqual(len(Town.of(ALONE)), 1)
        self.assertEqual([(x, y) for x in one for y in one][:4], [("a", "a"), ("a", "b"), ("a", "c"), ("b", "a")])

    def test_text(self):
        for town in (ALONE, TWO, RING, WAY):
            self.same(str(Town.of(town)), town_text(town))

    def test_equal(self):
        one = Town.of(TWO)
        self.assertIs(one == Town.of(TWO), True)
        self.assertIs(one != Town.of(TWO), False)
        others = ODDITIES + (TWO, str(one), Town.of(RING), Town(("a", "b")), Town(("a", "b"), ("a", "b", 0, 3)),
                             Town(("a", "b", "c"), WIRE))
        for other in others:
            self.assertIs(one == other, False, other)
            self.assertIs(one != other, True, other)


class Changing(Case):
    def test_a_wire_more(self):
        one = Town.of(WAY)
        self.same((one + ("a", "c", -1, -1)).wires_now, (("a", "b", 1, 1), ("a", "c", -1, -1), ("b", "c", -1, 3)))
        self.same((Town(("a", "b")) + WIRE).town_now, TWO)
        for wire in NO_WIRES + (("a", "b", 1, 1), ("a", "b", 7, 8), ("b", "c", 0, 0), one):
            self.not_usable("wire", -1, one.__add__, wire)

    def test_a_wire_less(self):
        self.same((Town.of(TWO) - WIRE).town_now, (("a", "b"), ()))
        self.same((Town.of(RING) - ("a", "c", 0, 2)).wires_now, (RING[1][0], RING[1][2]))
        for wire in NO_WIRES + (("a", "b", 0, 1), ("a", "c", 0, 2)):
            self.not_usable("wire", -1, Town.of(TWO).__sub__, wire)
        self.not_usable("wire", -1, Town(("a", "b"), ("a", "b", 0, 1)).__sub__, ("a", "b", 0, True))

    def test_both(self):
        one, far = Town(("a", "b"), WIRE), Town(("b", "c", "d"), ("b", "c", 1, 1))
        self.same((one | far).town_now, (("a", "b", "c", "d"), (WIRE, ("b", "c", 1, 1))))
        self.assertEqual(one | one, one)
        self.assertEqual(one | Town(("a", "b")), one)
        wrong = (Town(("a", "b"), ("a", "b", 0, 1)), Town(("a", "b"), ("a", "b", 1, 2)), TWO, WIRE, None, 0, "a")
        for other in wrong:
            self.not_usable("other", -1, one.__or__, other)
        more = Town(("a", "b", "c"), ("a", "c", 0, 0), ("a", "b", -LONG, 2))
        self.not_usable("other", -1, one.__or__, more)
        self.not_usable("other", -1, more.__or__, one)

    def test_without(self):
        self.same(Town.of(WAY).without("b").town_now, (("a", "c"), ()))
        self.same(Town.of(WAY).without(tower="a").town_now, (("b", "c"), (("b", "c", -1, 3),)))
        for thing in (None, True, "z", "", ("a",), ["a"]):
            self.not_usable("tower", thing, Town.of(WAY).without, thing)
        self.not_usable("tower", "a", Town.of(ALONE).without, "a")
        self.not_usable("tower", "b", Town.of(ALONE).without, "b")

    def test_called(self):
        one = Town.of(WAY)
        self.assertEqual(one.called(), one)
        self.assertEqual(one.called(("a", "a")), one)
        self.same(one.called(("a", "z")).town_now, (("b", "c", "z"), (("b", "c", -1, 3), ("b", "z", 1, 1))))
        turned = one.called(("a", "c"), ("c", "a"))
        self.same(turned.town_now, (("a", "b", "c"), (("a", "b", -1, 3), ("b", "c", 1, 1))))
        round_about = one.called(("a", "b"), ("b", "c"), ("c", "a"))
        self.same(round_about.town_now, (("a", "b", "c"), (("a", "c", -1, 3), ("b", "c", 1, 1))))

    def test_called_refuses(self):
        one = Town.of(WAY)
        for pair in (None, True, "ab", (), ("a",), ("a", "b", "c"), ["a", "z"], ("z", "y"), ("a", "Z"), ("a", ""),
                     ("a", 1), (1, "z"), (["a"], "z"), ("a", "abcdefghi")):
            self.not_usable("pairs", 0, one.called, pair)
            self.not_usable("pairs", 1, one.called, ("c", "y"), pair, None)
        self.not_usable("pairs", 1, one.called, ("a", "x"), ("a", "y"))
        self.not_usable("pairs", 2, one.called, ("a", "x"), ("b", "y"), ("a", "x"))
        self.not_usable("pairs", -1, one.called, ("a", "b"))
        self.not_usable("pairs", -1, one.called, ("a", "z"), ("b", "z"))
        self.not_usable("pairs", -1, one.called, ("a", "a"), ("b", "a"))
        self.not_usable("pairs", 1, one.called, ("a", "b"), None)


class Consequences(Case):
    def test_they_hold(self):
        cases = [Town.of(town) for town, _ in some_cases(19, 60, (1, 2, 3, 4))]
        for one, far in zip(cases, cases[1:]):
            for wire in one.wires_now:
                self.assertEqual((one - wire) + wire, one)
            for x, y in zip(one.towers_now, one.towers_now[1:]):
                if one(x, y) is None:
                    self.assertEqual((one + (x, y, -1, 1)) - (x, y, -1, 1), one)
            moved = far.called(*[(tower, tower + "x") for tower in far])
            self.assertEqual(one | moved, moved | one)
            self.assertEqual(moved.called(*[(tower + "x", tower) for tower in far]), far)
            self.assertEqual(Town.read(str(one)), one)

    def test_both_turned_about(self):
        one, far = Town.of(WAY), Town(("a", "c", "d"), ("a", "c", 0, 0), ("c", "d", 5, 6))
        self.assertEqual(one | far, far | one)
