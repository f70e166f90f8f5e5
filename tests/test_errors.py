"""The errors: their families, and that they keep their fields."""

import inspect
import unittest

from tests.helpers import ODD
from throwshelves import errors

FAMILIES = {
    "PaperError": {"InvalidPaper": ("word", "at")},
    "ShelfError": {"NotUsable": ("word", "at"), "Unheld": ("stretch",), "Lost": ("within",), "Torn": ("ways",),
                   "Barred": ("bar",)},
    "LiveError": {"InvalidEvent": ("event", "reason"), "NothingToUndo": ("steps",)},
    "TextError": {"InvalidText": ("line", "field"), "InvalidRow": ("row",)},
}


class Errors(unittest.TestCase):
    def test_families(self):
        self.assertEqual(errors.RingError.__bases__, (ValueError,))
        for family, kinds in FAMILIES.items():
            self.assertEqual(getattr(errors, family).__bases__, (errors.RingError,))
            for name in kinds:
                self.assertEqual(getattr(errors, name).__bases__, (getattr(errors, family),))

    def test_nothing_else(self):
        told = {name for name, _ in inspect.getmembers(errors, inspect.isclass)}
        wanted = {"RingError"} | set(FAMILIES) | {name for kinds in FAMILIES.values() for name in kinds}
        self.assertEqual(told, wanted)

    def test_fields_are_the_very_objects(self):
        for kinds in FAMILIES.values():
            for name, fields in kinds.items():
                kind = getattr(errors, name)
                for value in ODD + (object(), [[]], {"a": 1}):
                    values = [value, [value]][:len(fields)]
                    for error in (kind(*values), kind(**dict(zip(fields, values)))):
                        self.assertEqual(list(vars(error)), list(fields))
                        for field, one in zip(fields, values):
                            self.assertIs(getattr(error, field), one)

    def test_exactly_these_fields(self):
        for kinds in FAMILIES.values():
            for name, fields in kinds.items():
                kind = getattr(errors, name)
                for many in (0, len(fields) - 1, len(fields) + 1):
                    if many != len(fields):
                        with self.assertRaises(TypeError):
                            kind(*range(many))
                with self.assertRaises(TypeError):
                    kind(*range(len(fields)), other=1)

    def test_they_can_be_raised_and_caught(self):
        for family, kinds in FAMILIES.items():
            for name, fields in kinds.items():
                for base in (getattr(errors, family), errors.RingError, ValueError):
                    with self.assertRaises(base) as caught:
                        raise getattr(errors, name)(*fields)
                    self.assertEqual(vars(caught.exception), dict(zip(fields, fields)))


if __name__ == "__main__":
    unittest.main()
