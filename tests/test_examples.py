"""The examples of the document, word for word, with the results and errors that it shows."""

import os
import unittest

PLACE = os.path.join(os.path.dirname(__file__), "examples.txt")


def read_examples():
    """The triples (point, statement, told), told being None where the document shows nothing."""
    point, rows = "examples", []
    with open(PLACE, encoding="ascii") as file:
        for line in file.read().splitlines():
            if line.startswith("# "):
                point = line[2:]
            elif line.startswith(">>> "):
                rows.append([point, line[4:], None])
            else:
                rows[-1][2] = line
    return rows


def shown(statement, names):
    """What a line of the document would show of the statement."""
    try:
        return repr(eval(statement, names))
    except ValueError as error:
        fields = ", ".join(f"{name}={value!r}" for name, value in vars(error).items())
        return f"raises {type(error).__name__}({fields})"


class Examples(unittest.TestCase):
    def test_all(self):
        names = {}
        for point, statement, told in read_examples():
            with self.subTest(point=point, statement=statement):
                if told is None:
                    exec(statement, names)
                else:
                    self.assertEqual(shown(statement, names), told)

    def test_each_point_is_there(self):
        points = {point for point, _, told in read_examples() if told is not None}
        wanted = (11, 12, 13, 14, 15, 18, 19, 23, 24, 27, 28, 31, 32, 34, 36, 37, 40, 43, 47, 48, 51, 53, 55, 56, 59,
                  62, 64, 67, 68, 69, 70, 71, 72, 78, 80, 82, 87, 89)
        self.assertEqual(points, {f"[{number}]" for number in wanted})
