"""The error classes, their families and their fields."""

import unittest

from evenlater import errors

FAMILIES = {
    "PaperError": {"InvalidPaper": ("word", "at")},
    "DealError": {"NotUsable": ("word", "at"), "Unmade": ("witness",), "Unrecalled": ("piece",),
                  "Lacking": ("piece",), "Uneven": ("piece",)},
    "LiveError": {"InvalidEvent": ("event", "reason"), "NothingToUndo": ("steps",)},
    "TextError": {"InvalidText": ("line", "field"), "InvalidRow": ("row",)},
}


class Errors(unittest.TestCase):
    def test_families_derive_directly_from_the_base(self):
        self.assertEqual(errors.LaterError.__bases__, (ValueError,))
        for family in FAMILIES:
            self.assertEqual(getattr(errors, family).__bases__, (errors.LaterError,))

    def test_each_error_derives_directly_from_its_family(self):
        for family, known in FAMILIES.items():
            for name in known:
                self.assertEqual(getattr(errors, name).__bases__, (getattr(errors, family),))

    def test_fields_are_kept_as_they_are(self):
        for known in FAMILIES.values():
            for name, fields in known.items():
                values = [["kept", {}] for _ in fields]
                made = getattr(errors, name)
                for error in (made(*values), made(**dict(zip(fields, values)))):
                    self.assertEqual(sorted(vars(error)), sorted(fields))
                    for field, value in zip(fields, values):
                        self.assertIs(getattr(error, field), value)

    def test_exactly_the_fields_are_taken(self):
        for known in FAMILIES.values():
            for name, fields in known.items():
                made = getattr(errors, name)
                self.assertRaises(TypeError, made, *[0] * (len(fields) + 1))
                self.assertRaises(TypeError, made, *[0] * (len(fields) - 1))


if __name__ == "__main__":
    unittest.main()
