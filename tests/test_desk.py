"""Points [88] to [90]: a desk that answers rows of words."""

import random
from fractions import Fraction

from nearhours.desk import Desk
from nearhours.eventreadings import read_log
from nearhours.eventtexts import event_line, log_lines
from nearhours.houses import House
from nearhours.replaying import replayed
from nearhours.settings import nearness_of
from tests.support import ALONE, EACH, LONG, ODD, ODDITIES, RING, TWO, Case
from tests.test_houses import HEARD, NO_FORMS, is_form, some_houses
from tests.test_logs import LINES, some_logs

NONE = ((),)
ASKS = ("suspects", "sure", "nearest", "setting", "run", "state", "events", "log", "undo")
# Strings that are no row, whether there is a house or not.
NO_ROWS = (
    "", " ", "ok", "Suspects", "suspects ", " suspects", "sure\n", "nearest now", "setting a", "run 0", "states",
    "events 0", "log\n", "undo 1", "undo\n", "UNDO", "bars", "bars ", "bars  lose 0", "bars suspects", "bars lose",
    "bars lose -1", "bars hear a b 0", "bars bars lose 0", "bars lose 0 ", "bars lose 0\n", "Bars lose 0", "hear a b 0",
    "hear a b 0 1 ", "hear a b 0 01", "hear a b 0 1\n", "lose", "lose -1", "lose 0 1", "lose  0", "counts", "tally", "-",
    "hear A b 0 1", "lose 1" + "0" * 60, "\n", "house 1 1", "tower a", "do_all",
)


def opening(town, fears):
    """The row by which a desk has a house."""
    return "\n".join(log_lines((("house", town, fears),)))


def fraction(pair):
    return f"{pair[0]}/{pair[1]}"


def wanted(house, ask):
    """What a desk answers to a row that asks a house, by the words of the document."""
    if ask == "suspects":
        return " ".join("+".join(lot) or "*" for lot in house.suspects_now) or "-"
    if ask == "sure":
        return " ".join(house.sure_now) or "-"
    if ask == "nearest":
        return {None: "none", "-": "-"}.get(house.nearest_now) or fraction(house.nearest_now)
    if ask == "run":
        return " / ".join(" ".join(map(str, letter)) for letter in house.run_now) or "-"
    if ask == "state":
        return house.state()
    if ask == "events":
        return str(len(house))
    return " / ".join(event_line(event) for event in house) or "-"


class Desks(Case):
    def invalid_row(self, desk, row):
        self.refuses("InvalidRow", {"row": row}, desk.say, row)
        self.assertIs(self.refusal(desk.say, row)[1]["row"], row)

    def looks_right(self, desk, house):
        """Each row that asks is answered as the house tells."""
        for ask in ASKS:
            if ask == "setting":
                self.setting(desk.say(ask), house)
            elif ask != "undo":
                self.same(desk.say(ask), wanted(house, ask))

    def setting(self, answer, house):
        """The answer is a setting of the least nearness."""
        if house.nearest_now is None or house.nearest_now == "-":
            self.same(answer, "-")
            return
        told = tuple(tuple(int(part) for part in word.split("/")) for word in answer.split(" "))
        self.same(" ".join(fraction(pair) for pair in told), answer)
        self.same(nearness_of(house.town_now, house.fears_now, house.run_now, told), house.nearest_now)

    def test_drawn_courses(self):
        chance = random.Random(880)
        seen = {"applied": 0, "refused": 0, "undone": 0}
        for town, fears, events in some_houses(881, 60):
            desk, house = Desk(), House(town, fears)
            self.same(desk.say(opening(town, fears)), "ok")
            for event in events:
                if not is_form(event):
                    continue
                row = event_line(event)
                self.same(desk.say("bars " + row), house.barred(event) or "-")
                if house.barred(event) is not None:
                    self.refuses("InvalidEvent", {"event": event, "reason": house.barred(event)}, desk.say, row)
                    seen["refused"] += 1
                else:
                    self.same(desk.say(row=row), house.apply(event))
                    seen["applied"] += 1
                if len(house) and chance.random() < 0.2:
                    self.same(desk.say("undo"), event_line(house.undo()))
                    seen["undone"] += 1
                self.looks_right(desk, house)
        self.assertGreater(min(seen.values()), 20)

    def test_without_a_house(self):
        desk = Desk()
        for row in ASKS + NO_ROWS + ("hear a b 0 1", "lose 0", "bars lose 0", "bars hear a b 0 1") + ODDITIES:
            self.invalid_row(desk, row)

    def test_rows_that_are_none(self):
        desk = Desk()
        desk.say(opening(RING, EACH))
        for row in NO_ROWS + ODDITIES + (HEARD[0], ("suspects",), ["undo"], 24, b"undo"):
            self.invalid_row(desk, row)
        self.same([desk.say("events"), desk.say("state"), desk.say("log")], ["0", "explained", "-"])

    def test_logs_with_events_are_no_rows(self):
        for desk in (Desk(), self.opened()):
            self.invalid_row(desk, "\n".join(LINES))
            self.invalid_row(desk, "\n".join(LINES[:11]))
            for k in range(10):
                self.invalid_row(desk, "\n".join(LINES[:k]))
                self.invalid_row(desk, "\n".join(LINES[:k] + [LINES[k] + " "] + LINES[k + 1:10]))
            self.invalid_row(desk, "\n".join(LINES[:10]) + "\n")
            self.invalid_row(desk, "\n" + "\n".join(LINES[:10]))
            self.invalid_row(desk, " / ".join(LINES[:10]))
            self.invalid_row(desk, LINES[:10])
            self.same(desk.say("\n".join(LINES[:10])), "ok")

    def opened(self):
        desk = Desk()
        desk.say(opening(TWO, NONE))
        return desk

    def test_a_second_house(self):
        desk = Desk()
        self.same([desk.say(opening(RING, EACH)), desk.say("hear a b 0 1"), desk.say("events")],
                  ["ok", "explained", "1"])
        self.same([desk.say(opening(ALONE, (("a",),))), desk.say("events"), desk.say("suspects")], ["ok", "0", "* a"])
        self.same([desk.say(opening(ALONE, (("a",),))), desk.say("nearest"), desk.say("setting")], ["ok", "0/1", "0/1"])
        # A row that is none leaves the house as it is.
        desk.say(opening(RING, EACH))
        desk.say("hear a b 0 1")
        self.invalid_row(desk, opening(RING, EACH) + "\nlose 0")
        self.same([desk.say("log"), desk.say("undo"), desk.say("log")], ["hear a b 0 1", "hear a b 0 1", "-"])

    def test_nothing(self):
        desk = self.opened()
        self.same([desk.say(ask) for ask in ASKS[:-1]],
                  ["*", "-", "none", "-", "-", "explained", "0", "-"])
        self.same([desk.say("bars hear a b 0 1"), desk.say("bars lose 0"), desk.say("bars hear a c 0 1")],
                  ["-", "index", "letter"])

    def test_unexplained(self):
        desk = self.opened()
        self.same([desk.say("hear a b 0 1"), desk.say("nearest"), desk.say("hear a b 0 4")],
                  ["explained", "1/1", "unexplained"])
        self.same([desk.say(ask) for ask in ASKS],
                  ["-", "a b", "-", "-", "a b 0 1 / a b 0 4", "unexplained", "2", "hear a b 0 1 / hear a b 0 4",
                   "hear a b 0 4"])
        self.same([desk.say("lose 0"), desk.say("log"), desk.say("run")],
                  ["explained", "hear a b 0 1 / lose 0", "-"])

    def test_lots_and_fractions(self):
        desk = Desk()
        desk.say(opening(RING, (("a", "b"), ("b", "c"))))
        self.same(desk.say("suspects"), "* a a+b b b+c c")
        desk.say("hear a b 0 1")
        desk.say("hear a b 0 9")
        self.same([desk.say("suspects"), desk.say("sure")], ["a a+b b b+c", "-"])
        desk.say(opening(TWO, NONE))
        desk.say("hear a b 5 6")
        desk.say("hear b a 6 8")
        self.same([desk.say("nearest"), desk.say("run")], ["1/2", "a b 5 6 / b a 6 8"])
        self.setting(desk.say("setting"), replayed((("house", TWO, NONE), ("hear", ("a", "b", 5, 6)),
                                                    ("hear", ("b", "a", 6, 8)))))

    def test_long_integers(self):
        desk = self.opened()
        far = LONG - 1
        self.same(desk.say(f"hear a b 0 {far}"), "explained")
        self.same([desk.say("run"), desk.say("log")], [f"a b 0 {far}", f"hear a b 0 {far}"])
        one, other = [Fraction(*map(int, word.split("/"))) for word in desk.say("setting").split(" ")]
        self.assertEqual(other - one, far - 1)
        self.invalid_row(desk, f"hear a b 0 {LONG}")
        self.refuses("InvalidEvent", {"event": ("lose", far), "reason": "index"}, desk.say, f"lose {far}")

    def test_errors_of_the_house(self):
        desk = Desk()
        desk.say(opening(RING, EACH))
        self.refuses("NothingToUndo", {"steps": 0}, desk.say, "undo")
        for row, event, reason in (("lose 0", ("lose", 0), "index"), ("hear a z 0 1", ("hear", ("a", "z", 0, 1)), "letter"),
                                   ("hear x y 0 1", ("hear", ("x", "y", 0, 1)), "letter")):
            self.refuses("InvalidEvent", {"event": event, "reason": reason}, desk.say, row)
            self.same(desk.say("bars " + row), reason)
        for _ in range(16):
            desk.say("hear a b 0 1")
        self.refuses("InvalidEvent", {"event": ("hear", ODD[0]), "reason": "many"}, desk.say, "hear a b 0 1")
        for k in range(8):
            desk.say(f"lose {k}")
        self.same(desk.say("bars hear a b 0 1"), "full")
        self.same([desk.say("undo"), desk.say("bars lose 6"), desk.say("bars lose 7")], ["lose 7", "lost", "-"])

    def test_counts(self):
        desk = Desk()
        self.same(desk.counts(), (0, 0))
        rows = (None, "state", opening(RING, EACH), "state", "undo", "hear a b 0 1", "lose 9", "bars lose 9", "", "nope",
                "\n".join(LINES), opening(TWO, NONE), "events")
        for k, row in enumerate(rows):
            try:
                desk.say(row)
            except ValueError:
                pass
            self.same(desk.counts(), (k + 1, k + 1))
            self.same(desk.counts(), (k + 1, k + 1))

    def test_each_desk_has_its_own(self):
        one, other = Desk(), Desk()
        one.say(opening(RING, EACH))
        self.invalid_row(other, "state")
        other.say(opening(RING, EACH))
        one.say("hear a b 0 1")
        self.same([one.say("events"), other.say("events")], ["1", "0"])

    def test_no_words_of_its_own_besides(self):
        desk = Desk()
        desk.say(opening(RING, EACH))
        for row in ("tally", "barred", "tried", "apply", "heard", "town", "fears", "keep", "log_lines", "say", "counts"):
            self.invalid_row(desk, row)
        for event in NO_FORMS:
            self.invalid_row(desk, event)


class Consequences(Case):
    def test_what_is_replayed_is_equal(self):
        for town, fears, events in some_houses(890, 60):
            house = House(town, fears)
            for event in events:
                if house.barred(event) is None:
                    house.apply(event)
            self.assertTrue(replayed(house.log()) == house)
            self.same(read_log(log_lines(house.log())), house.log())

    def test_lines_of_logs(self):
        for log in some_logs(891, 60):
            self.same(read_log(log_lines(log)), log)
