"""Point [11]: the kinds."""

from nearhours.kinds import is_fraction, is_integer, is_name, is_number, is_towers
from tests.support import LONG, ODDITIES, Case


class Kinds(Case):
    def accepts(self, call, right, wrong):
        for thing in right:
            self.assertIs(call(thing), True, thing)
            self.assertIs(call(thing=thing), True, thing)
        for thing in wrong:
            self.assertIs(call(thing), False, thing)

    def test_integers(self):
        wrong = (True, False, None, "1", "", (), (1,), [1])
        self.accepts(is_integer, (0, 1, -1, LONG, -LONG), wrong)

    def test_numbers(self):
        wrong = (-1, -LONG, True, False, None, "1", (), (1,), [1])
        self.accepts(is_number, (0, 1, LONG), wrong)

    def test_names(self):
        right = ("a", "z", "abcdefgh", "tower", "wire")
        wrong = ("", "abcdefghi", "A", "aB", "a1", "1", "a b", " a", "a\n", "-", "a-b", None, True, 1,
                 ("a",), ["a"], ("a", "b"), "\u00e4", "a\u00df")
        self.accepts(is_name, right, wrong)

    def test_towers(self):
        right = (("a",), ("a", "b"), ("a", "aa", "b"), ("ab", "b", "ba"))
        wrong = ((), [], ["a"], ("b", "a"), ("a", "a"), ("a", "b", "b"), ("a", "c", "b"), ("a", 1),
                 ("a", "B"), ("",), ("a", ""), "a", "ab", None, True, 0, (True,), (("a",),),
                 ("a", "abcdefghi"), ("a", ["b"]))
        self.accepts(is_towers, right, wrong)

    def test_fractions(self):
        right = ((0, 1), (1, 1), (-1, 1), (-1, 2), (3, 2), (LONG, 1), (LONG + 1, LONG), (-3, 7))
        wrong = ((0, 2), (2, 4), (-2, 4), (1, 0), (0, 0), (1, -2), (-1, -2), (0, -1), (1,), (1, 2, 3),
                 [1, 2], (True, 1), (1, True), (0, True), (False, 1), "12", ("1", "2"), None, 1, (),
                 (1, None), ((1,), 2))
        self.accepts(is_fraction, right, wrong)

    def test_any_value(self):
        for call in (is_integer, is_number, is_name, is_towers, is_fraction):
            for thing in ODDITIES:
                self.assertIn(call(thing), (True, False))
