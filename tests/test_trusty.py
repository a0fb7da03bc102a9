"""Points [82] to [84]: houses that let no letter through that nobody could explain, and going through events."""

import ast
import os
import random

from nearhours.houseruns import house_through
from nearhours.houses import House
from nearhours.suspects import least_suspects
from nearhours.towns import Town
from nearhours.trusty import Trusty
from tests.support import EACH, ODD, ODDITIES, RING, TWO, Case, plain_suspects
from tests.test_houses import HEARD, NO_FORMS, NO_LETTERS, Plain, is_form, some_houses, told_of
from tests.test_parting import FOUR

NONE = ((),)
TIED = ("hear", ("a", "b", 0, 1))
TORN = ("hear", ("a", "b", 0, 4))
PLACE = os.path.join(os.path.dirname(os.path.dirname(os.path.abspath(__file__))), "nearhours", "trusty.py")


class TrustyHouses(Case):
    def test_each_method_that_changes_is_its_own(self):
        self.assertEqual(Trusty.__bases__, (House,))
        for name in ("__init__", "hear", "apply", "barred", "tried", "do_all"):
            self.assertIn(name, vars(Trusty))
        with open(PLACE, encoding="ascii") as file:
            names = [row.name for row in ast.parse(file.read()).body if isinstance(row, ast.ClassDef)]
        self.assertEqual(names, ["Trusty"])

    def test_drawn_courses(self):
        seen = {"unexplained": 0, "other": 0, None: 0}
        lots = set()
        for town, fears, events in some_houses(820, 200):
            house, plain = Trusty(town, fears), Plain(town, fears)
            for event in events:
                reason = plain.reason(event)
                if reason is None and event[0] == "hear" and not plain_suspects(town, fears, (*plain.run(), event[1])):
                    self.same(house.barred(event), "unexplained")
                    lot = least_suspects(town, fears, plain.run())[0]
                    self.assertEqual(len(lot), min(len(one) for one in plain_suspects(town, fears, plain.run())))
                    for ask in (house.apply, house.tried, house.do_all):
                        self.refuses("Barred", {"event": event, "lot": lot}, ask, event)
                    self.refuses("Barred", {"event": event, "lot": lot}, house.hear, event[1])
                    lots.add(lot)
                    seen["unexplained"] += 1
                elif reason is not None:
                    self.same(house.barred(event), reason)
                    for ask in (house.apply, house.tried, house.do_all):
                        self.refuses("InvalidEvent", {"event": event, "reason": reason}, ask, event)
                    seen["other"] += 1
                else:
                    self.same(house.barred(event), None)
                    plain.events.append(event)
                    self.same(house.apply(event), "explained")
                    seen[None] += 1
                self.same((house.log()[1:], house.run_now), (tuple(plain.events), plain.run()))
                self.same(house.state(), "explained")
                self.assertNotEqual(house.nearest_now, "-")
            for _ in range(len(house)):
                house.undo()
                self.same(house.state(), "explained")
        self.assertGreater(min(seen.values()), 20, seen)
        self.assertGreater(len(lots), 1)

    def test_the_lot_is_the_first_of_the_least(self):
        house = Trusty(RING, (("a",), ("b", "c")))
        far = ("hear", ("a", "b", 0, 50)), ("hear", ("b", "c", 0, 50)), ("hear", ("a", "c", 0, 90))
        worse = ("hear", ("b", "c", 0, 0))
        # Nobody need have lied, then a or both others, then both others alone.
        house.do_all(HEARD[0], HEARD[1])
        self.same(house.suspects_now, ((), ("a",), ("b",), ("b", "c"), ("c",)))
        house.apply(far[0])
        self.same(house.suspects_now, (("a",), ("b",), ("b", "c")))
        house.do_all(("hear", ("a", "c", 0, 0)), far[2])
        self.same(house.suspects_now, (("a",), ("b", "c")))
        self.same(house.barred(far[1]), None)
        every = Trusty(RING, EACH)
        every.do_all(*HEARD)
        self.same(every.suspects_now, EACH)
        every.apply(far[0])
        self.same(every.suspects_now, EACH[:2])
        every.apply(far[1])
        self.same(every.suspects_now, EACH[1:2])
        self.refuses("Barred", {"event": far[2], "lot": ("b",)}, every.apply, far[2])
        # Of several suspects that have the fewest towers it is the first, whoever else may have lied.
        every.lose(4)
        clash = ("hear", ("a", "c", 0, 90)), ("hear", ("b", "c", 0, 90))
        self.same((every.suspects_now, every.apply(clash[0]), every.suspects_now),
                  (EACH[:2], "explained", EACH[:1]))
        self.refuses("Barred", {"event": clash[1], "lot": ("a",)}, every.apply, clash[1])
        self.same(house.apply(worse), "explained")
        self.same(house.suspects_now, (("a",), ("b", "c")))

    def test_more_than_one_of_the_fewest(self):
        for fears, lots in (((("a", "b"),), (("a",), ("a", "b"), ("b",))), (EACH, EACH[:2]),
                            ((("a",), ("b",), ("b", "c")), (("a",), ("b",), ("b", "c"))),
                            ((("a", "c"), ("b",)), (("a",), ("a", "c"), ("b",)))):
            house = Trusty(FOUR, fears)
            house.do_all(TIED, ("hear", ("a", "b", 0, 9)), ("hear", ("a", "d", 0, 0)), ("hear", ("b", "d", 0, 0)))
            self.same(house.suspects_now, lots)
            house.do_all(("hear", ("c", "d", 0, 0)), ("lose", 2), ("lose", 3))
            barred = ("hear", ("c", "d", 0, 9))
            if any("c" in lot for lot in lots):
                self.same(house.barred(barred), None)
            else:
                self.refuses("Barred", {"event": barred, "lot": ("a",)}, house.apply, barred)

    def test_another_reason_comes_first(self):
        house = Trusty(TWO, NONE)
        house.apply(TIED)
        for event in NO_FORMS:
            self.same(house.barred(event), "shape")
            self.refuses("InvalidEvent", {"event": event, "reason": "shape"}, house.apply, event)
        for letter in NO_LETTERS:
            self.same(house.barred(("hear", letter)), "letter")
        for k in range(15):
            house.hear(("a", "b", k, k + 1))
        self.same(house.barred(TORN), "many")
        self.refuses("InvalidEvent", {"event": TORN, "reason": "many"}, house.hear, TORN[1])
        for k in range(8):
            house.lose(k)
        self.same((house.barred(TORN), house.barred(TIED), house.barred(("lose", 0))), ("full",) * 3)
        self.refuses("InvalidEvent", {"event": TORN, "reason": "full"}, house.tried, TORN)
        house.undo()
        self.same((house.barred(TORN), house.barred(TIED), house.barred(("lose", 99))), ("unexplained", None, "index"))

    def test_midway(self):
        house = Trusty(TWO, NONE)
        error = {"event": TORN, "lot": ()}
        events = (TIED, ("lose", 0), TIED, TORN, None)
        self.refuses("Barred", error, house.tried, *events)
        self.same((len(house), house.tally()), (0, (0, 0)))
        self.refuses("Barred", error, house.do_all, *events)
        self.same((len(house), house.tally()), (0, (1, 1)))
        self.refuses("Barred", error, house.do_all, *events, keep=True)
        self.same((house.log()[1:], house.tally()), (events[:3], (2, 2)))
        self.refuses("InvalidEvent", {"event": None, "reason": "shape"}, house.do_all, TIED, None, TORN)
        self.not_usable("keep", 0, house.do_all, TORN, keep=0)
        self.same((house.log()[1:], house.tally()), (events[:3], (4, 4)))
        # What is left out of account bars nothing.
        self.same(house.do_all(("lose", 1), TORN), 2)
        self.same((house.state(), house.undo(), house.undo(), house.barred(TORN)),
                  ("explained", TORN, ("lose", 1), "unexplained"))

    def test_tally(self):
        house = Trusty(TWO, NONE)
        for k, call in enumerate((lambda: house.hear(TIED[1]), lambda: house.hear(TORN[1]), lambda: house.apply(TORN),
                                  lambda: house.lose(0), lambda: house.lose(0), house.undo, house.undo, house.undo,
                                  lambda: house.do_all(TIED, TIED), lambda: house.do_all(TORN))):
            try:
                call()
            except ValueError:
                pass
            self.same(house.tally(), (k + 1, k + 1))
        for event in (TIED, TORN, None):
            house.barred(event)
        self.refusal(house.tried, TORN)
        self.same(house.tally(), (10, 10))

    def test_by_name(self):
        house = Trusty(fears=NONE, town=TWO)
        self.same([house.hear(letter=TIED[1]), house.apply(event=("lose", 0)), house.barred(event=("lose", 0))],
                  ["explained", "explained", "lost"])


class Through(Case):
    def test_as_long_as_it_is_explained(self):
        seen = {"stopped": 0, "refused": 0, "whole": 0}
        for town, fears, events in some_houses(830, 150):
            events = tuple(event for event in events if is_form(event))
            for made in (House, Trusty):
                house, other = made(town, fears), made(town, fears)
                try:
                    log = house_through(house, events)
                    self.same(log, house.log())
                    error = None
                except ValueError as wrong:
                    error = type(wrong).__name__, vars(wrong)
                count = 0
                for event in events:
                    if other.state() == "unexplained":
                        break
                    count += 1
                    try:
                        other.apply(event)
                    except ValueError as wrong:
                        self.same((type(wrong).__name__, vars(wrong)), error)
                        error = "seen"
                        break
                self.assertIn(error, (None, "seen"))
                self.same((told_of(house), house.tally()), (told_of(other), (count, count)))
                seen["refused" if error else "whole" if count == len(events) else "stopped"] += 1
        self.assertGreater(min(seen.values()), 5, seen)

    def test_edges(self):
        house = House(TWO, NONE)
        self.same((house_through(house, ()), house.tally()), ((("house", TWO, NONE),), (0, 0)))
        # It becomes unexplained midway: what comes behind that is not looked at, be it possible or not.
        events = (TIED, TORN, ("lose", 1), ("lose", 77))
        self.same(house_through(house=house, events=events), (("house", TWO, NONE), TIED, TORN))
        self.same((house.state(), house.tally()), ("unexplained", (2, 2)))
        # It is so at first: none is applied.
        self.same(house_through(house, (("lose", 1),)), (("house", TWO, NONE), TIED, TORN))
        self.same(house.tally(), (2, 2))
        trusty = Trusty(TWO, NONE)
        self.refuses("Barred", {"event": TORN, "lot": ()}, house_through, trusty, events)
        self.same((trusty.log()[1:], trusty.tally()), ((TIED,), (2, 2)))
        self.refuses("InvalidEvent", {"event": ("lose", 3), "reason": "index"}, house_through, trusty,
                     (("lose", 0), ("lose", 3), TIED))
        self.same(trusty.log()[1:], (TIED, ("lose", 0)))

    def test_refusals(self):
        for thing in ODDITIES + (RING, Town.of(RING), House, (("house", RING, EACH),)):
            self.not_usable("house", -1, house_through, thing, ())
            self.not_usable("house", -1, house_through, thing, None)
        house = House(TWO, NONE)
        for events in (None, True, 0, "", [], [TIED], (None,), (TIED, None), TIED, (TIED, ("lose", True)),
                       (["lose", 0],)) + tuple((event,) for event in NO_FORMS):
            self.not_usable("events", -1, house_through, house, events)
        self.same((len(house), house.tally()), (0, (0, 0)))


class Consequences(Case):
    def test_equal_by_the_same_events(self):
        chance = random.Random(840)
        for town, fears, events in some_houses(841, 60):
            trusty, house = Trusty(town, fears), House(town, fears)
            for event in events:
                if trusty.barred(event) is None:
                    self.same(chance.choice((trusty.apply, trusty.do_all))(event) in ("explained", 1), True)
                    house.apply(event)
                self.assertTrue(trusty == house and house == trusty)
                self.assertIs(trusty != house, False)
                self.same(told_of(trusty), told_of(house))
