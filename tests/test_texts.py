"""Points [17] and [18], and what [20] says of them: towns and runs as texts."""

from nearhours.townreadings import run_read, town_read
from nearhours.towntexts import run_text, town_text
from tests.support import ALONE, LONG, ODD, RING, SIXTY, TWO, WAY, Case, some_cases

TOWERS = "tower a\ntower b\ntower c\n"


class Writing(Case):
    def test_town_text(self):
        self.same(town_text(ALONE), "tower a")
        lines = ["tower a", "tower b", "tower c", "wire a b 1 1", "wire b c -1 3"]
        self.same(town_text(town=WAY), "\n".join(lines))

    def test_run_text(self):
        self.same(run_text(()), "-")
        self.same(run_text(run=(ODD[2], ODD[0])), "letter c a 0 -5\nletter a b 0 1")

    def test_run_text_of_whatever_town(self):
        self.same(run_text((("zz", "abcdefgh", -1, 0), ("q", "q", 2, 3))),
                  "letter zz abcdefgh -1 0\nletter q q 2 3")

    def test_run_text_refuses(self):
        letters = (None, True, "abcd", ("a", "b", 0), ("a", "b", 0, 1, 2), ["a", "b", 0, 1],
                   ("a", "B", 0, 1), ("", "b", 0, 1), ("a", 1, 0, 1), ("a", "b", True, 1),
                   ("a", "b", 0, False), ("a", "b", "0", 1), ("abcdefghi", "b", 0, 1), (["a"], "b", 0, 1))
        for letter in letters:
            self.not_usable("run", -1, run_text, (letter,))
            self.not_usable("run", -1, run_text, (ODD[0], letter))
        for run in (None, True, 0, "-", [], list(ODD), ODD[0]):
            self.not_usable("run", -1, run_text, run)


class TownReading(Case):
    def misread(self, line, field, text):
        self.refuses("InvalidText", {"line": line, "field": field}, town_read, text)

    def test_no_string(self):
        for text in (None, True, 0, (), [], ["tower a"], ("tower a",)):
            self.not_usable("text", -1, town_read, text)

    def test_right_ones(self):
        self.same(town_read("tower a"), ALONE)
        self.same(town_read(text="tower a\ntower b"), (("a", "b"), ()))
        self.same(town_read("tower tower\ntower wire\nwire tower wire -1 0"),
                  (("tower", "wire"), (("tower", "wire", -1, 0),)))
        self.same(town_read(TOWERS + "wire a b 0 0\nwire a c 0 0\nwire b c -9 10")[1],
                  (("a", "b", 0, 0), ("a", "c", 0, 0), ("b", "c", -9, 10)))

    def test_first_words(self):
        for text in ("", " ", "\n", "wire a b 0 1", "Tower a", "towers a", "-", " tower a", "letter a b 0 1"):
            self.misread(0, 0, text)
        self.misread(1, 0, "tower a\n")
        self.misread(1, 0, "tower a\n\ntower b")
        self.misread(1, 0, "tower a\nletter a b 0 1")
        self.misread(4, 0, TOWERS + "wire a b 0 1\ntower d")
        self.misread(4, 0, TOWERS + "wire a b 0 1\n")
        self.misread(4, 0, TOWERS + "wire a b 0 1\nwires b c 0 1")

    def test_lines_of_towers(self):
        self.misread(0, 1, "tower")
        for name in ("", "A", "a1", "abcdefghi", "1", "-"):
            self.misread(0, 1, "tower " + name)
        self.misread(0, 1, "tower  a")
        self.misread(0, 2, "tower a ")
        self.misread(0, 2, "tower a b")
        self.misread(0, 2, "tower b b\ntower a")
        self.misread(1, 1, "tower b\ntower a")
        self.misread(1, 1, "tower b\ntower b")
        self.misread(2, 1, "tower b\ntower c\ntower bb")
        self.misread(1, 1, "tower a\ntower")
        self.misread(1, 1, "tower b\ntower a c")

    def test_lines_of_wires(self):
        rows = (
            (1, "wire"), (1, "wire "), (1, "wire d b 0 1"), (1, "wire 0 b"), (2, "wire a"), (2, "wire a "),
            (2, "wire a a 0 1"), (2, "wire b a 0 1"), (2, "wire a d 0 1"), (2, "wire c a 0 1"),
            (3, "wire a b"), (3, "wire a b "), (3, "wire a b x 1"), (3, "wire a b  1"), (4, "wire a b 0"),
            (4, "wire a b 0 "), (4, "wire a b 1 0"), (4, "wire a b -1 -2"), (5, "wire a b 0 1 "),
            (5, "wire a b 0 1 2"), (2, "wire c"), (2, "wire c c 0 1"), (2, "wire a x y z u v"),
        )
        for field, line in rows:
            self.misread(3, field, TOWERS + line)

    def test_wires_behind_wires(self):
        rows = (
            (1, "b c", "a b 0 1"), (2, "a b", "a b 5 6"), (2, "a c", "a b 0 1"), (2, "b c", "b c 0 1"),
            (2, "a c", "a c"), (1, "b c", "a"), (2, "a c", "a"), (2, "b c", "c"), (2, "b c", "c b 0 1"),
        )
        for field, ahead, line in rows:
            self.misread(4, field, f"{TOWERS}wire {ahead} 0 1\nwire {line}")
        self.same(town_read(TOWERS + "wire a c 0 1\nwire b c 0 1")[1][1], ("b", "c", 0, 1))

    def test_the_first_line_counts(self):
        self.misread(1, 1, "tower b\ntower a\nwire a b 0\n")
        self.misread(3, 4, TOWERS + "wire a b 1 0\nwire a a 1 0")

    def test_integers(self):
        for word in ("0", "7", "10", "-1", "-10", str(LONG - 1), str(1 - LONG)):
            self.same(town_read(f"{TOWERS}wire a b {word} {word}")[1], (("a", "b", int(word), int(word)),))
        wrong = ("-0", "00", "01", "-01", "+1", "1.0", "-", "--1", "1-", "1e3", "0x1", "1_0", "a", str(LONG),
                 str(-LONG), "- 1", "\u0661", "1\u00b2")
        for word in wrong:
            self.misread(3, 3, f"{TOWERS}wire a b {word} 0")
            self.misread(3, 4, f"{TOWERS}wire a b -5 {word}")


class RunReading(Case):
    def misread(self, line, field, text, town=WAY):
        self.refuses("InvalidText", {"line": line, "field": field}, run_read, town, text)

    def test_no_string(self):
        for text in (None, True, 0, (), [], ["-"]):
            self.not_usable("text", -1, run_read, TWO, text)
        self.not_usable("town", -1, run_read, None, None)

    def test_right_ones(self):
        self.same(run_read(TWO, "-"), ())
        self.same(run_read(ALONE, "-"), ())
        self.same(run_read(town=TWO, text="letter b a -1 0\nletter b a -1 0"), (("b", "a", -1, 0),) * 2)

    def test_lines(self):
        rows = (
            (0, ""), (0, "- "), (0, " -"), (0, "- letter"), (0, "letters a b 0 1"), (0, " letter"),
            (1, "letter"), (1, "letter "), (1, "letter z b 0 1"), (2, "letter a"), (2, "letter a "),
            (2, "letter a a 0 1"), (2, "letter a c 0 1"), (2, "letter a z 0 1"), (3, "letter a b"),
            (3, "letter a b x 1"), (3, "letter b a 01 1"), (4, "letter b a 1"), (4, "letter b a 1 -0"),
            (4, "letter b a 1 "), (5, "letter b a 1 -5 "), (5, "letter b a 1 -5 6"), (2, "letter a  b 0 1"),
        )
        for field, line in rows:
            self.misread(0, field, line)
            self.misread(1, field, "letter a b 0 1\n" + line)
            self.misread(1, field, "letter a b 0 1\n" + line + "\n-\nletter")
        self.misread(1, 0, "letter a b 0 1\n-")
        self.misread(0, 0, "-\n")
        self.misread(0, 0, "-\nletter a b 0 1")
        self.misread(1, 0, "letter a b 0 1\n")

    def test_a_tower_that_no_wire_joins(self):
        town = (("a", "b", "c"), (("a", "b", 0, 1),))
        self.misread(0, 2, "letter c", town)
        self.misread(0, 2, "letter c a 0 1", town)
        self.misread(0, 2, "letter a c 0 1", town)

    def test_integers(self):
        long = str(LONG - 1)
        self.same(run_read(TWO, f"letter a b {long} -{long}"), (("a", "b", LONG - 1, 1 - LONG),))
        self.misread(0, 3, f"letter a b {LONG} 0")
        self.misread(0, 4, f"letter a b 0 -{LONG}")


class BackAndForth(Case):
    def test_consequences(self):
        for town, run in some_cases(20, 80, (1, 2, 3, 4, 5), 6):
            self.same(town_read(town_text(town)), town)
            self.assertEqual(town_text(town_read(town_text(town))), town_text(town))
            self.same(run_read(town, run_text(run)), run)
            self.assertEqual(run_text(run_read(town, run_text(run))), run_text(run))

    def test_sixty_digits(self):
        town = (("a", "b"), (("a", "b", -SIXTY * 9, SIXTY * 9),))
        self.same(town_read(town_text(town)), town)
        wide = (("a", "b"), (("a", "b", 0, LONG),))
        self.refuses("InvalidText", {"line": 2, "field": 4}, town_read, town_text(wide))
        self.same(run_read(RING, run_text(ODD)), ODD)
