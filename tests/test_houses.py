"""Points [74] and [76] to [81]: houses of letters."""

import inspect
import random
import re
from fractions import Fraction

from nearhours.houses import House
from nearhours.settings import nearest, nearness_of
from nearhours.suspects import surely_lied, suspects
from nearhours.towns import Town
from nearhours.trusty import Trusty
from tests.support import (
    ALONE, EACH, LONG, ODD, ODDITIES, RING, TWO, WAY, Case, heard_run, joined_town, plain_suspects, some_fears_of,
)

NONE = ((),)
HEARD = tuple(("hear", letter) for letter in ODD)
# Values that are no events by form.
NO_FORMS = ODDITIES + (
    ("hear",), ("lose",), ("hear", ODD[0], 0), ("lose", 0, 0), ["hear", ODD[0]], ["lose", 0], ("Hear", ODD[0]),
    ("hear", None), ("hear", ODD[0][:3]), ("hear", ODD[0] + (0,)), ("hear", list(ODD[0])), ("hear", ("A", "b", 0, 1)),
    ("hear", ("a", "abcdefghi", 0, 1)), ("hear", ("", "b", 0, 1)), ("hear", (0, "b", 0, 1)),
    ("hear", ("a", "b", True, 1)), ("hear", ("a", "b", 0, False)), ("hear", ("a", "b", "0", 1)),
    ("hear", ("a", "b", 0, None)), ("lose", -1), ("lose", True), ("lose", False), ("lose", None), ("lose", "0"),
    ("lose", (0,)), ("lose", ODD[0]), ("hear", 0), (None, 0), (("lose",), 0), ("lose", [0]), ("undo", 0),
)
# Letters by form that are none of RING.
NO_LETTERS = (("a", "z", 0, 1), ("z", "a", 0, 1), ("a", "a", 0, 1), ("x", "y", LONG, 0))


def some_events(chance, town, many):
    """Events by chance, possible ones more often than not."""
    events, heard = [], 0
    liars = chance.choice(((), (town[0][0],), town[0]))
    for letter in heard_run(chance, town, liars, many) or (("a", "b", 0, 0),) * many:
        kind = chance.random()
        if kind < 0.65:
            events.append(("hear", letter))
            heard += 1
        elif kind < 0.93:
            events.append(("lose", chance.randint(0, max(0, heard - 1))))
        elif kind < 0.97:
            events.append(("hear", (letter[0], "zz", 0, 0)))
        else:
            events.append(chance.choice((None, ("lose", True), ("lose", -1), ("hear", letter[:3]), "undo")))
    return events


def some_houses(seed, count, many=12):
    """Tuples of a town, fears and events by chance."""
    chance = random.Random(seed)
    cases = []
    for _ in range(count):
        town = joined_town(chance, chance.choice((1, 2, 3, 3, 4)))
        cases.append((town, some_fears_of(chance, town[0]), some_events(chance, town, chance.randint(0, many))))
    return cases


def is_form(event):
    """Whether any value is an event by form, by the words of [74]."""
    if type(event) is not tuple or len(event) != 2 or event[0] not in ("hear", "lose"):
        return False
    told = event[1]
    if event[0] == "lose":
        return type(told) is int and told >= 0
    if type(told) is not tuple or [type(part) for part in told] != [str, str, int, int]:
        return False
    return all(re.fullmatch("[a-z]{1,8}", name) for name in told[:2])


class Plain:
    """What a house comes to, by the words of the document."""

    def __init__(self, town, fears, events=()):
        self.town, self.fears, self.events = town, fears, list(events)

    def heard(self):
        return tuple(event[1] for event in self.events if event[0] == "hear")

    def run(self):
        lost = {event[1] for event in self.events if event[0] == "lose"}
        return tuple(letter for k, letter in enumerate(self.heard()) if k not in lost)

    def reason(self, event):
        """By the order of [77]."""
        if not is_form(event):
            return "shape"
        if len(self.events) >= 24:
            return "full"
        word, told = event
        if word == "hear":
            if not any({told[0], told[1]} == set(wire[:2]) for wire in self.town[1]):
                return "letter"
            return "many" if len(self.run()) >= 16 else None
        if told >= len(self.heard()):
            return "index"
        return "lost" if ("lose", told) in self.events else None

    def state(self):
        return "explained" if plain_suspects(self.town, self.fears, self.run()) else "unexplained"


def told_of(house):
    """All that a house tells of itself but its tally."""
    return repr((house.town_now, house.fears_now, house.heard_now, house.run_now, house.suspects_now, house.sure_now,
                 house.nearest_now, house.setting_now, house.state(), house.log(), len(house), list(house)))


class Houses(Case):
    def looks_right(self, house, plain):
        """The house is as told by the words of the document, and by suspects, surely_lied and nearest."""
        run = plain.run()
        told = (plain.town, plain.fears, run)
        self.same((house.town_now, house.fears_now), told[:2])
        self.same((house.heard_now, house.run_now), (plain.heard(), run))
        self.same(house.log(), (("house", plain.town, plain.fears), *plain.events))
        self.same((tuple(house), len(house)), (tuple(plain.events), len(plain.events)))
        self.same((house.suspects_now, house.sure_now), (suspects(*told), surely_lied(*told)))
        self.same(house.suspects_now, plain_suspects(*told))
        self.same(house.state(), plain.state())
        if house.state() == "unexplained":
            self.same((house.nearest_now, house.setting_now, house.sure_now), ("-", None, plain.town[0]))
            return
        self.same(house.nearest_now, nearest(*told))
        if house.nearest_now is None:
            self.assertIsNone(house.setting_now)
        else:
            self.assertIs(type(house.setting_now), tuple)
            self.same(nearness_of(*told, house.setting_now), house.nearest_now)

    def test_drawn_courses(self):
        seen = {}
        for town, fears, events in some_houses(760, 120):
            house, plain = House(town, fears), Plain(town, fears)
            self.looks_right(house, plain)
            for event in events:
                reason = plain.reason(event)
                self.same(house.barred(event), reason)
                if reason is None:
                    plain.events.append(event)
                    ask = {"hear": house.hear, "lose": house.lose}[event[0]] if len(house) % 2 else None
                    self.same(house.apply(event) if ask is None else ask(event[1]), plain.state())
                else:
                    self.refuses("InvalidEvent", {"event": event, "reason": reason}, house.apply, event)
                self.looks_right(house, plain)
                kind = reason or house.state()
                seen[kind] = seen.get(kind, 0) + 1
            while plain.events:
                self.same(house.undo(), plain.events.pop())
                self.looks_right(house, plain)
        for kind in ("explained", "unexplained", "shape", "letter", "index", "lost"):
            self.assertGreater(seen[kind], 10, seen)

    def test_made_of_any_values(self):
        for town in ODDITIES:
            self.not_usable("town", -1, House, town, None)
            self.not_usable("town", -1, Trusty, town, None)
        for fears in (None, True, (), [], [()], (("b",), ("a",)), (("z",),), "a"):
            self.not_usable("fears", -1, House, RING, fears)
            self.not_usable("fears", -1, Trusty, RING, fears)
        house = House(town=ALONE, fears=NONE)
        self.same((house.state(), house.nearest_now, house.setting_now, house.suspects_now, house.sure_now),
                  ("explained", (0, 1), ((0, 1),), NONE, ()))
        self.same((House.MOST, house.MOST, Trusty.MOST), (24, 24, 24))

    def test_properties_are_only_read(self):
        house = House(RING, EACH)
        for name in ("town_now", "fears_now", "heard_now", "run_now", "suspects_now", "sure_now", "nearest_now",
                     "setting_now"):
            self.assertIsInstance(vars(House)[name], property)
            with self.assertRaises(AttributeError):
                setattr(house, name, ())

    def test_shape(self):
        house = House(RING, EACH)
        for event in NO_FORMS:
            self.assertIs(is_form(event), False)
            self.same(house.barred(event), "shape")
            self.refuses("InvalidEvent", {"event": event, "reason": "shape"}, house.apply, event)
            self.assertIs(self.refusal(house.apply, event)[1]["event"], event)
        self.refuses("InvalidEvent", {"event": ("hear", None), "reason": "shape"}, house.hear, None)
        self.refuses("InvalidEvent", {"event": ("lose", True), "reason": "shape"}, house.lose, True)
        self.refuses("InvalidEvent", {"event": ("lose", -1), "reason": "shape"}, house.lose, index=-1)
        self.same(len(house), 0)

    def test_letters_that_no_wire_carries(self):
        for letter in NO_LETTERS:
            self.refuses("InvalidEvent", {"event": ("hear", letter), "reason": "letter"}, House(RING, EACH).hear, letter)
        for letter in (("a", "c", 0, 0), ("c", "a", 0, 0)):
            self.refuses("InvalidEvent", {"event": ("hear", letter), "reason": "letter"},
                         House(WAY, NONE).hear, letter=letter)

    def test_sixteen_letters_that_are_left(self):
        house = House(TWO, NONE)
        for k in range(16):
            self.same(house.hear(("a", "b", k, k)), "explained")
        self.same(house.barred(("hear", ("a", "b", 0, 0))), "many")
        self.same(house.barred(("hear", ("a", "z", 0, 0))), "letter")
        self.refuses("InvalidEvent", {"event": ("hear", ("b", "a", 0, 0)), "reason": "many"},
                     house.hear, ("b", "a", 0, 0))
        self.same(house.lose(3), "explained")
        self.same(house.hear(("a", "b", 3, 3)), "explained")
        self.same((len(house.run_now), len(house.heard_now), house.run_now[-1]), (16, 17, ("a", "b", 3, 3)))
        self.same(house.barred(("hear", ("a", "b", 0, 0))), "many")

    def test_twenty_four_events(self):
        house = House(TWO, NONE)
        for k in range(12):
            house.hear(("a", "b", k, k))
            house.lose(k)
        self.same((len(house), house.run_now), (24, ()))
        for event in (("hear", ("a", "b", 0, 0)), ("hear", ("a", "z", 0, 0)), ("lose", 0), ("lose", 99)):
            self.same(house.barred(event), "full")
            self.refuses("InvalidEvent", {"event": event, "reason": "full"}, house.apply, event)
        for event in NO_FORMS:
            self.same(house.barred(event), "shape")
        self.same(house.undo(), ("lose", 11))
        self.same(house.barred(("lose", 0)), "lost")
        self.same(house.lose(11), "explained")

    def test_indexes_of_letters(self):
        house = House(RING, EACH)
        self.same(house.barred(("lose", 0)), "index")
        house.do_all(*HEARD)
        self.same([house.barred(("lose", k)) for k in (0, 2, 3, LONG)], [None, None, "index", "index"])
        house.lose(1)
        self.same(house.barred(("lose", 1)), "lost")
        # Heard again it has an index of its own, and the one that was left out stays so.
        house.hear(ODD[1])
        self.same((house.run_now, house.heard_now), ((ODD[0], ODD[2], ODD[1]), ODD + (ODD[1],)))
        self.same([house.barred(("lose", k)) for k in (1, 3, 4)], ["lost", None, "index"])
        self.same((house.lose(3), house.run_now), ("explained", (ODD[0], ODD[2])))

    def test_unexplained_and_led_back(self):
        house = House(TWO, NONE)
        self.same([house.hear(("a", "b", 0, 1)), house.hear(("a", "b", 0, 4)), house.hear(("b", "a", 0, 0))],
                  ["explained", "unexplained", "unexplained"])
        self.same((house.nearest_now, house.setting_now, house.suspects_now, house.sure_now), ("-", None, (), TWO[0]))
        self.same((house.lose(1), house.nearest_now), ("explained", (1, 2)))
        self.same((house.undo(), house.state(), house.lose(2), house.state()),
                  (("lose", 1), "unexplained", "unexplained", "unexplained"))
        self.same((house.lose(0), house.nearest_now, house.undo(), house.nearest_now),
                  ("explained", (1, 1), ("lose", 0), "-"))
        self.same((house.undo(), house.undo(), house.undo(), house.state()),
                  (("lose", 2), ("hear", ("b", "a", 0, 0)), ("hear", ("a", "b", 0, 4)), "explained"))


class Events(Case):
    def setUp(self):
        self.house = House(RING, EACH)
        self.house.do_all(*HEARD)

    def test_tried(self):
        for town, fears, events in some_houses(790, 60, 8):
            for made in (House, Trusty):
                house, drawn = made(town, fears), made(town, fears)
                for event in events:
                    if drawn.barred(event) is None:
                        drawn.apply(event)
                events = tuple(drawn)
                cut = len(events) // 2
                house.do_all(*events[:cut])
                before = told_of(house), house.tally()
                found = house.tried(*events[cut:])
                self.same((told_of(house), house.tally()), before)
                house.do_all(*events[cut:])
                self.same(found, (house.run_now, house.nearest_now, house.state()))
                self.same(house.tried(), found)

    def test_tried_that_is_refused_midway(self):
        before = told_of(self.house), self.house.tally()
        for events, reason in (((("lose", 0), ("lose", 0), None), "lost"), ((None, ("lose", 0)), "shape"),
                               ((("lose", 1), ("hear", ("a", "z", 0, 0))), "letter"), ((("lose", 3),), "index"),
                               ((HEARD[0], ("lose", 3), ("lose", 4)), "index")):
            wrong = {"lost": 1, "shape": 0, "letter": 1}.get(reason, len(events) - 1)
            self.refuses("InvalidEvent", {"event": events[wrong], "reason": reason}, self.house.tried, *events)
            self.same((told_of(self.house), self.house.tally()), before)
        self.refuses("InvalidEvent", {"event": HEARD[0], "reason": "many"}, self.house.tried, *HEARD[:1] * 14)
        self.refuses("InvalidEvent", {"event": HEARD[0], "reason": "full"}, self.house.tried,
                     *(("lose", 0), ("lose", 1), ("lose", 2)), *HEARD[:1] * 16, *[("lose", k) for k in range(3, 5)],
                     HEARD[0])
        self.same((told_of(self.house), self.house.tally()), before)

    def test_undo(self):
        house = House(TWO, NONE)
        self.refuses("NothingToUndo", {"steps": 0}, house.undo)
        house.hear(("a", "b", 0, 1))
        house.lose(0)
        self.same([house.undo(), house.run_now], [("lose", 0), (("a", "b", 0, 1),)])
        self.same([house.undo(), house.run_now, len(house)], [("hear", ("a", "b", 0, 1)), (), 0])
        self.refuses("NothingToUndo", {"steps": 0}, house.undo)

    def test_do_all(self):
        house = House(RING, EACH)
        self.same((house.do_all(), len(house)), (0, 0))
        self.same((house.do_all(*HEARD, ("lose", 1)), len(house)), (4, 4))
        self.same((house.do_all(HEARD[0], keep=True), house.do_all(keep=False), len(house)), (1, 0, 5))

    def test_do_all_that_is_refused(self):
        events = (("lose", 1), HEARD[0], ("lose", 1), HEARD[1])
        error = {"event": ("lose", 1), "reason": "lost"}
        log = self.house.log()
        self.refuses("InvalidEvent", error, self.house.do_all, *events)
        self.same(self.house.log(), log)
        self.refuses("InvalidEvent", error, self.house.do_all, *events, keep=False)
        self.same(self.house.log(), log)
        self.refuses("InvalidEvent", error, self.house.do_all, *events, keep=True)
        self.same(self.house.log(), log + events[:2])
        self.refuses("InvalidEvent", {"event": None, "reason": "shape"}, self.house.do_all, None, HEARD[0], keep=True)
        self.same(self.house.log(), log + events[:2])

    def test_keep(self):
        log = self.house.log()
        for keep in (None, 0, 1, "", "True", (), [True], (False,)):
            self.not_usable("keep", keep, self.house.do_all, keep=keep)
            self.not_usable("keep", keep, self.house.do_all, None, HEARD[0], keep=keep)
            self.not_usable("keep", keep, self.house.do_all, HEARD[0], keep=keep)
        self.same(self.house.log(), log)
        self.assertIs(inspect.signature(House.do_all).parameters["keep"].default, False)

    def test_by_name(self):
        house = House(fears=EACH, town=RING)
        self.same([house.hear(letter=ODD[0]), house.apply(event=HEARD[1]), house.lose(index=0)], ["explained"] * 3)
        self.same(house.barred(event=("lose", 0)), "lost")

    def test_tally(self):
        house = House(TWO, NONE)
        wanted = 0
        letter = ("a", "b", 0, 1)
        for call, told in (
                (house.hear, (letter,)), (house.hear, (None,)), (house.lose, (0,)), (house.lose, (0,)),
                (house.apply, (("hear", letter),)), (house.apply, (None,)), (house.undo, ()), (house.undo, ()),
                (house.undo, ()), (house.undo, ()), (house.do_all, ()), (house.do_all, (("hear", letter),) * 5),
                (house.do_all, (("hear", letter), None))):
            try:
                call(*told)
            except ValueError:
                pass
            wanted += 1
            self.same(house.tally(), (wanted, wanted))
        for keep in (True, None):
            try:
                house.do_all(("lose", 0), None, keep=keep)
            except ValueError:
                pass
            wanted += 1
            self.same(house.tally(), (wanted, wanted))
        for ask in (lambda: house.tried(("lose", 1)), lambda: house.tried(None), lambda: house.barred(None), house.log,
                    house.state, house.tally, lambda: list(house), lambda: len(house), lambda: letter in house,
                    lambda: house == House(TWO, NONE), lambda: house.nearest_now, lambda: house.suspects_now,
                    lambda: house.setting_now, lambda: house.run_now, lambda: house.sure_now, lambda: house.heard_now):
            try:
                ask()
            except ValueError:
                pass
            self.same(house.tally(), (wanted, wanted))

    def test_errors_change_nothing_but_counts(self):
        for refused in (lambda: self.house.hear(None), lambda: self.house.lose(7), lambda: self.house.apply(()),
                        lambda: self.house.do_all(HEARD[0], None), lambda: self.house.do_all(keep=1)):
            before, many = told_of(self.house), self.house.tally()[0]
            self.refusal(refused)
            self.same(told_of(self.house), before)
            self.same(self.house.tally(), (many + 1, many + 1))


class AsValues(Case):
    def test_contains(self):
        house = House(RING, EACH)
        house.do_all(("hear", ("a", "b", 0, 1)), ("hear", ("b", "c", 1, 0)), ("lose", 1), ("lose", 0))
        for event in house:
            self.assertIs(event in house, True)
        for thing in NO_FORMS + (("lose", True), ("lose", False), ("hear", ("a", "b", False, True)), ("lose", 2), house,
                                 ("hear", ("a", "b", 0, True)), ("hear", ("b", "c", True, 0)), Town.of(RING),
                                 ("hear", ("a", "b", 1, 0)), ["lose", 0], ("a", "b", 0, 1)):
            self.assertIs(thing in house, False, thing)

    def test_equality(self):
        house = House(RING, EACH)
        self.assertTrue(house == House(RING, EACH))
        self.assertTrue(house == Trusty(RING, EACH) and Trusty(RING, EACH) == house)
        house.hear(ODD[0])
        other = House(RING, EACH)
        self.assertIs(house == other, False)
        other.apply(HEARD[0])
        self.assertTrue(house == other)
        house.undo()
        other.undo()
        self.assertTrue(house == other and house == House(RING, EACH))
        wide = (RING[0], RING[1][:2] + (("b", "c", 0, 3),))
        for thing in (House(wide, EACH), House(RING, EACH[:2]), Trusty(RING, NONE), Town.of(RING), house.log(), None, 0):
            self.assertIs(house == thing, False)
            self.assertIs(house != thing, True)
        # The letters that are left may be the same: the logs are not.
        house.do_all(HEARD[0], HEARD[1], ("lose", 0))
        other.hear(ODD[1])
        self.same(house.run_now, other.run_now)
        self.assertIs(house == other, False)

    def test_iterated_over_twice_at_once(self):
        house = House(RING, EACH)
        house.do_all(*HEARD)
        self.same([(one, other) for one in house for other in house],
                  [(one, other) for one in HEARD for other in HEARD])
        first, second = iter(house), iter(house)
        self.same((next(first), next(first), next(second)), (HEARD[0], HEARD[1], HEARD[0]))

    def test_what_it_told_stays(self):
        house = House(RING, EACH)
        house.do_all(*HEARD)
        log, run, heard = house.log(), house.run_now, house.heard_now
        kept = repr((log, run, heard))
        house.lose(0)
        house.undo()
        house.undo()
        self.same((log, run, heard), eval(kept))
        for told in (log, run, heard, house.suspects_now, house.sure_now, house.tried(), house.tally()):
            self.assertIs(type(told), tuple)

    def test_asking_twice(self):
        for town, fears, events in some_houses(800, 20):
            house = House(town, fears)
            for event in events:
                if house.barred(event) is None:
                    house.apply(event)
                self.same(told_of(house), told_of(house))


class Consequences(Case):
    def no_greater(self, one, other):
        return other is None or (one is not None and Fraction(*one) <= Fraction(*other))

    def test_letters_more_and_fewer(self):
        seen = 0
        for town, fears, events in some_houses(810, 80):
            house = House(town, fears)
            for event in events:
                if house.barred(event) is not None:
                    continue
                lots, least, state = house.suspects_now, house.nearest_now, house.state()
                house.apply(event)
                if event[0] == "hear":
                    self.assertLessEqual(set(house.suspects_now), set(lots))
                    if house.state() == "explained":
                        self.same(state, "explained")
                        self.assertTrue(self.no_greater(house.nearest_now, least))
                        seen += house.nearest_now != least
                else:
                    self.assertGreaterEqual(set(house.suspects_now), set(lots))
        self.assertGreater(seen, 20)

    def test_in_another_order(self):
        chance = random.Random(811)
        for town, fears, _ in some_houses(812, 60):
            letters = list(heard_run(chance, town, chance.choice(fears), chance.randint(0, 7)))
            one, other = House(town, fears), House(town, fears)
            one.do_all(*[("hear", letter) for letter in letters])
            chance.shuffle(letters)
            other.do_all(*[("hear", letter) for letter in letters])
            self.same((one.suspects_now, one.sure_now, one.nearest_now, one.state()),
                      (other.suspects_now, other.sure_now, other.nearest_now, other.state()))
            self.same(sorted(one.run_now), sorted(other.run_now))
