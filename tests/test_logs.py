"""Points [75] and [85] to [87]: logs, houses made anew, lines and what is read from them."""

import random

from nearhours.eventreadings import read_event, read_log
from nearhours.eventtexts import event_line, log_lines
from nearhours.houselogs import is_log
from nearhours.houses import House
from nearhours.replaying import replayed
from nearhours.towntexts import town_text
from nearhours.trusty import Trusty
from tests.support import (
    ALONE, EACH, LONG, ODD, ODDITIES, RING, SIXTY, TWO, WAY, Case, joined_town, some_fears_of,
)
from tests.test_houses import HEARD, NO_FORMS, some_houses, told_of

NONE = ((),)
START = ("house", RING, EACH)
LOG = (START, *HEARD, ("lose", 1))
LINES = ["house 6 3", "tower a", "tower b", "tower c", "wire a b 0 2", "wire a c 0 2", "wire b c 0 2", "lot a", "lot b",
         "lot c", "hear a b 0 1", "hear b c 0 1", "hear c a 0 -5", "lose 1"]
NO_LOGS = ODDITIES + (
    (), START, (START, None), [START], list(LOG), (list(START),), (START[:2],), (START + (0,),), (("House", RING, EACH),),
    (("house", RING, ()),), (("house", RING, EACH[::-1]),), (("house", RING, (("z",),)),), (("house", TWO, EACH),),
    (("house", RING[0], EACH),), (("house", None, NONE),), (HEARD[0],), (START, START), (START, list(HEARD[0])),
    (START, ODD[0]), ((), START), (("house", RING, None),),
)


def some_logs(seed, count):
    """Logs by chance, whose events need not be possible, with long integers too."""
    chance = random.Random(seed)
    numbers = (0, 1, -1, 7, -20, SIXTY, LONG - 1, 1 - LONG)
    logs = []
    for _ in range(count):
        town = joined_town(chance, chance.choice((1, 2, 3, 4)))
        wires = []
        for one, other, low, high in town[1]:
            far = chance.choice((0, 0, SIXTY))
            wires.append((one, other, low - far, high + far))
        names = town[0] + ("z", "abcdefgh", "lot", "wire")
        events = [
            ("hear", (chance.choice(names), chance.choice(names), chance.choice(numbers), chance.choice(numbers)))
            if chance.random() < 0.7 else ("lose", abs(chance.choice(numbers)))
            for _ in range(chance.randint(0, 6))
        ]
        logs.append((("house", (town[0], tuple(wires)), some_fears_of(chance, town[0])), *events))
    return logs


class Logs(Case):
    def test_right_ones(self):
        for log in some_logs(750, 60) + [LOG, (START,), (("house", ALONE, NONE),), (START,) + HEARD * 20]:
            self.assertIs(is_log(log), True)
        self.assertIs(is_log(thing=(START, ("lose", LONG), ("hear", ("x", "x", LONG, -LONG)))), True)

    def test_others(self):
        for thing in NO_LOGS:
            self.assertIs(is_log(thing), False, thing)
        for event in NO_FORMS:
            self.assertIs(is_log((START, event)), False, event)
            self.assertIs(is_log((START, HEARD[0], event, HEARD[0])), False, event)

    def test_of_houses(self):
        for made in (House, Trusty):
            self.assertIs(is_log(made(RING, EACH).log()), True)


class Replayed(Case):
    def test_houses(self):
        for town, fears, events in some_houses(850, 80):
            house = House(town, fears)
            for event in events:
                if house.barred(event) is None:
                    house.apply(event)
            again = replayed(log=house.log())
            self.assertIs(type(again), House)
            self.assertTrue(again == house)
            self.same((told_of(again), again.tally()), (told_of(house), (0, 0)))
            read = replayed(read_log(log_lines(house.log())))
            self.assertTrue(read == house)
            # It is a house of its own.
            if len(again):
                again.undo()
                self.same(len(house), len(again) + 1)

    def test_of_a_trusty(self):
        trusty = Trusty(TWO, NONE)
        trusty.hear(("a", "b", 0, 1))
        again = replayed(trusty.log())
        self.assertIs(type(again), House)
        self.assertTrue(again == trusty)
        self.same((again.hear(("a", "b", 0, 4)), len(trusty)), ("unexplained", 1))

    def test_the_first_event_that_is_refused(self):
        for events, at, reason in (((("lose", 0),), 0, "index"), ((HEARD[0], ("lose", 0), ("lose", 0)), 2, "lost"),
                                   ((HEARD[0], ("hear", ("a", "z", 0, 0)), ("lose", 9)), 1, "letter"),
                                   (HEARD[:1] * 17, 16, "many"),
                                   ((HEARD[0], ("lose", 0), *HEARD[:1] * 16, ("lose", 1), *HEARD[:1],
                                     *[("lose", k) for k in range(2, 7)]), 24, "full")):
            error = {"event": events[at], "reason": reason}
            self.refuses("InvalidEvent", error, replayed, (START, *events))
            self.assertTrue(replayed((START, *events[:at])).log() == (START, *events[:at]))

    def test_other_values(self):
        for thing in NO_LOGS + (House(RING, EACH),):
            self.not_usable("log", -1, replayed, thing)
            self.not_usable("log", -1, log_lines, thing)
        self.not_usable("log", -1, replayed, (START, None))


class Lines(Case):
    def test_of_events(self):
        self.same([event_line(event) for event in LOG[1:]], LINES[10:])
        self.same(event_line(event=("lose", LONG)), "lose 1" + "0" * 60)
        self.same(event_line(("hear", ("abcdefgh", "x", -LONG, 0))), "hear abcdefgh x -1" + "0" * 60 + " 0")
        for event in NO_FORMS:
            self.not_usable("event", -1, event_line, event)

    def test_of_logs(self):
        self.same(log_lines(log=LOG), LINES)
        self.same(log_lines((("house", ALONE, NONE),)), ["house 1 1", "tower a", "lot"])
        self.same(log_lines((("house", WAY, ((), ("a", "b", "c"), ("b",))), ("lose", 0))),
                  ["house 5 3", "tower a", "tower b", "tower c", "wire a b 1 1", "wire b c -1 3", "lot", "lot a b c",
                   "lot b", "lose 0"])
        for log in some_logs(860, 60):
            _, town, fears = log[0]
            text = town_text(town).split("\n")
            lines = log_lines(log)
            self.assertIs(type(lines), list)
            self.same(lines[0], f"house {len(text)} {len(fears)}")
            self.same(lines[1:len(text) + 1], text)
            self.same(lines[len(text) + 1:], [" ".join(("lot", *lot)) for lot in fears]
                      + [event_line(event) for event in log[1:]])

    def test_told_lines_belong_to_the_caller(self):
        house = House(RING, EACH)
        house.do_all(*HEARD)
        before = told_of(house)
        lines = log_lines(house.log())
        lines.append("lose 0")
        lines[0] = ""
        del lines[1:4]
        self.same((told_of(house), log_lines(house.log())), (before, LINES[:13]))

    def test_there_and_back(self):
        for log in some_logs(870, 100):
            lines = log_lines(log)
            kept = list(lines)
            self.same(read_log(lines), log)
            self.same(read_log(lines=lines), log)
            self.same(lines, kept)
            self.same(log_lines(read_log(lines)), lines)
            for event in log[1:]:
                self.same(read_event(event_line(event)), event)
        self.same(read_log(LINES), LOG)
        far = (START, ("lose", LONG))
        self.refuses("InvalidText", {"line": 10, "field": 1}, read_log, log_lines(far))
        self.refuses("InvalidText", {"line": 0, "field": 4}, read_event, event_line(("hear", ("a", "b", 0, -LONG))))
        self.refuses("InvalidText", {"line": 4, "field": 4}, read_log, log_lines(
            (("house", (("a", "b", "c"), (("a", "b", 0, LONG),)), NONE),)))


class ReadEvent(Case):
    def refused(self, field, line):
        self.refuses("InvalidText", {"line": 0, "field": field}, read_event, line)
        self.refuses("InvalidText", {"line": 12, "field": field}, read_log, LINES[:12] + [line]) \
            if "\n" not in line else None

    def test_right_ones(self):
        self.same(read_event("hear a b 0 -7"), ("hear", ("a", "b", 0, -7)))
        self.same(read_event(line="hear zz zz 9" + "0" * 59 + " -9" + "0" * 59), ("hear", ("zz", "zz", 9 * SIXTY, -9 * SIXTY)))
        self.same(read_event("lose 0"), ("lose", 0))
        self.same(read_event("lose 1" + "0" * 59), ("lose", SIXTY))
        self.same(read_event("hear hear lose 0 0"), ("hear", ("hear", "lose", 0, 0)))

    def test_other_values(self):
        for thing in (None, True, 0, (), [], ["lose 0"], ("lose", 0)):
            self.not_usable("line", -1, read_event, thing)

    def test_first_word(self):
        for line in ("", " ", "a", "Hear a b 0 1", " hear a b 0 1", "lose0", "hears a b 0 1", "undo", "lot a", "-",
                     "hear\na b 0 1", "\nlose 0", "LOSE 0", "lose\n0", "\n"):
            self.refused(0, line)

    def test_missing_words(self):
        self.refused(1, "hear")
        self.refused(1, "lose")
        self.refused(2, "hear a")
        self.refused(3, "hear a b")
        self.refused(4, "hear a b 0")

    def test_empty_words(self):
        self.refused(1, "hear ")
        self.refused(1, "lose ")
        self.refused(1, "lose  0")
        self.refused(1, "hear  a b 0 1")
        self.refused(2, "hear a  b 0 1")
        self.refused(3, "hear a b  0 1")
        self.refused(4, "hear a b 0  1")
        self.refused(5, "hear a b 0 1 ")
        self.refused(2, "lose 0 ")

    def test_words_too_many(self):
        self.refused(5, "hear a b 0 1 2")
        self.refused(5, "hear a b 0 1 2 3")
        self.refused(2, "lose 0 1")

    def test_names(self):
        for name in ("A", "abcdefghi", "a1", "1", "a\n", "-", "a-b", "a.b"):
            self.refused(1, f"hear {name} b 0 1")
            self.refused(2, f"hear a {name} 0 1")

    def test_integers(self):
        for number in ("+1", "01", "-01", "00", "-0", "--1", "-", "1.0", "a", "1_0", "1" + "0" * 60, "-1" + "0" * 60,
                       "0x1", "1\n", "\n1", "1-"):
            self.refused(3, f"hear a b {number} 1")
            self.refused(4, f"hear a b 0 {number}")
            self.refused(1, f"lose {number}")
        self.refused(1, "lose -1")
        self.refused(1, "lose -1 2 3")


class ReadLog(Case):
    def refused(self, line, field, lines):
        kept = list(lines)
        self.refuses("InvalidText", {"line": line, "field": field}, read_log, lines)
        self.assertEqual(lines, kept)

    def changed(self, k, line):
        """The lines with one of them otherwise."""
        return LINES[:k] + [line] + LINES[k + 1:]

    def test_other_values(self):
        for thing in (None, True, 0, "", "house 1 1", (), tuple(LINES), [None], LINES + [0], LINES + [["lose 0"]],
                      ["\n"], LINES[:-1] + ["lose 1\n"], ["\n".join(LINES)], {}, [True]):
            self.not_usable("lines", -1, read_log, thing)

    def test_empty_ones(self):
        for lines in ([], [""], ["", "tower a", "lot"]):
            self.refused(0, 0, lines)

    def test_the_first_line(self):
        for line, field in (("House 6 3", 0), (" house 6 3", 0), ("6 3", 0), ("house", 1), ("house ", 1),
                            ("house 6", 2), ("house 6 ", 2), ("house  6 3", 1), ("house 6  3", 2), ("house 6 3 ", 3),
                            ("house 6 3 1", 3), ("house 0 3", 1), ("house 6 0", 2), ("house -6 3", 1),
                            ("house 06 3", 1), ("house 6 +3", 2), ("house six 3", 1), ("house 6 -1", 2),
                            ("house 6 1" + "0" * 60, 2), ("house 0 0", 1), ("houses 6 3", 0), ("house 6 03", 2)):
            self.refused(0, field, self.changed(0, line))
            # The errors of the first line come ahead of lines that are missing.
            self.refused(0, field, [line])

    def test_fewer_lines_than_told(self):
        for many in range(1, 10):
            self.refused(many, 0, LINES[:many])
        self.same(read_log(LINES[:10]), (START,))
        self.refused(14, 0, self.changed(0, "house 6 8"))
        self.refused(14, 0, self.changed(0, "house 11 3"))
        self.refused(14, 0, self.changed(0, "house 1 1" + "0" * 59))
        # They come ahead of the errors of other lines.
        self.refused(3, 0, ["house 6 3", "", "x"])
        self.refused(1, 0, ["house 1 1"])
        self.refused(2, 0, ["house 1 1", "tower A"])

    def test_the_lines_of_the_town(self):
        for k, line, field in ((1, "wire a b 0 2", 0), (1, "tower", 1), (1, "tower A", 1), (1, "tower a b", 2),
                               (2, "tower a", 1), (2, "", 0), (3, "tower c ", 2), (3, "lot c", 0), (4, "tower b", 1),
                               (4, "wire b a 0 2", 2), (5, "wire a b 0 2", 2), (5, "tower c", 0), (6, "wire b c 0", 4),
                               (6, "wire b c 2 0", 4), (6, "wire a b 0 1", 2), (6, "wire b c 00 2", 3),
                               (6, "lot a", 0), (5, "house 6 3", 0)):
            self.refused(k, field, self.changed(k, line))
        # N tells where the town ends.
        self.refused(6, 0, self.changed(0, "house 5 3"))
        self.refused(7, 0, self.changed(0, "house 7 3"))

    def test_the_lines_of_the_fears(self):
        for k, line, field in ((7, "", 0), (7, "Lot a", 0), (7, "lot z", 1), (7, "lot ", 1), (7, "lot a ", 2),
                               (7, "lot  a", 1), (7, "lot a a", 2), (7, "lot c b", 2), (7, "lot a z", 2),
                               (7, "lot a c b", 3), (7, "wire a b 0 1", 0), (8, "lot a", 0), (8, "lot", 0),
                               (9, "lot b", 0), (9, "lot a b c", 0), (9, "lot b b", 2), (8, "lot a z", 2),
                               (8, "lot A", 1), (9, "hear a b 0 1", 0), (7, " lot a", 0), (7, "lots a", 0)):
            self.refused(k, field, self.changed(k, line))
        # M tells where the fears end.
        self.refused(9, 0, self.changed(0, "house 6 2"))
        self.refused(10, 0, self.changed(0, "house 6 4"))
        # Whether a lot comes behind the one before is looked at after its towers.
        self.refused(8, 2, self.changed(8, "lot a a"))
        self.refused(8, 0, self.changed(8, "lot a"))
        self.same(read_log(["house 1 2", "tower a", "lot", "lot a"]), (("house", ALONE, ((), ("a",))),))
        self.refused(3, 0, ["house 1 2", "tower a", "lot a", "lot"])
        self.refused(3, 0, ["house 1 2", "tower a", "lot", "lot"])

    def test_the_lines_of_events(self):
        for k in (10, 13):
            for line, field in (("", 0), ("lot a", 0), ("hear a b 0", 4), ("hear a b 0 1 ", 5), ("lose", 1),
                                ("lose -1", 1), ("lose 1 1", 2), ("hear A b 0 1", 1), ("hear a b 00 1", 3)):
                self.refused(k, field, self.changed(k, line))
        self.refused(14, 0, LINES + [""])
        # Whether they are possible is not looked at.
        self.same(read_log(LINES[:10] + ["hear y z 0 0", "lose 99", "lose 99"]),
                  (START, ("hear", ("y", "z", 0, 0)), ("lose", 99), ("lose", 99)))

    def test_the_first_line_that_cannot_stand(self):
        lines = self.changed(8, "lot z")
        lines[12] = ""
        self.refused(8, 1, lines)
        lines[3] = "tower"
        self.refused(3, 1, lines)
        lines[0] = "house 6 3 3"
        self.refused(0, 3, lines)

    def test_fears_of_nobody_alone(self):
        log = (("house", ALONE, NONE), ("lose", 0))
        self.same(log_lines(log), ["house 1 1", "tower a", "lot", "lose 0"])
        self.same(read_log(["house 1 1", "tower a", "lot", "lose 0"]), log)
        self.refused(2, 1, ["house 1 1", "tower a", "lot "])
