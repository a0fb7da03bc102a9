"""Points [2] and [10]: the errors, their families and their fields."""

import unittest

from nearhours import errors

FAMILIES = {
    "PaperError": {"InvalidPaper": ("word", "at")},
    "TownError": {"NotUsable": ("word", "at")},
    "HouseError": {
        "InvalidEvent": ("event", "reason"),
        "NothingToUndo": ("steps",),
        "Barred": ("event", "lot"),
    },
    "TextError": {"InvalidText": ("line", "field"), "InvalidRow": ("row",)},
}
ROWS = [
    (getattr(errors, family), getattr(errors, name), fields)
    for family, names in FAMILIES.items() for name, fields in names.items()
]


class Touchy:
    """A value that must not be looked at."""

    def __eq__(self, other):
        raise AssertionError("inspected")

    __repr__ = __str__ = __len__ = __bool__ = __hash__ = __iter__ = __eq__


class Errors(unittest.TestCase):
    def test_families(self):
        self.assertEqual(errors.HourError.__bases__, (ValueError,))
        for family, error, _ in ROWS:
            self.assertEqual(family.__bases__, (errors.HourError,))
            self.assertEqual(error.__bases__, (family,))

    def test_all_are_defined_there(self):
        found = {name for name, thing in vars(errors).items() if isinstance(thing, type)}
        names = {error.__name__ for _, error, _ in ROWS}
        self.assertEqual(found, names | set(FAMILIES) | {"HourError"})
        for name in found:
            self.assertEqual(getattr(errors, name).__module__, "nearhours.errors")

    def test_fields_are_kept_as_they_are(self):
        for _, error, fields in ROWS:
            values = [[Touchy()] for _ in fields]
            for made in (error(*values), error(**dict(zip(fields, values)))):
                self.assertEqual(tuple(vars(made)), fields)
                for field, value in zip(fields, values):
                    self.assertIs(getattr(made, field), value)
            touchy = [Touchy() for _ in fields]
            made = error(*touchy)
            for field, value in zip(fields, touchy):
                self.assertIs(getattr(made, field), value)

    def test_no_more_and_no_fewer_fields(self):
        for _, error, fields in ROWS:
            for many in (len(fields) - 1, len(fields) + 1):
                with self.assertRaises(TypeError):
                    error(*range(many))
