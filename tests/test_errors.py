"""The errors: their families, their fields, how they are made."""

import unittest

from assentwhole import errors
from tests.samples import KEPT

FAMILIES = {
    "DataError": {
        "BadLots": ("at", "word"),
        "BadCounts": ("at",),
        "BadCrowd": ("at",),
        "BadTrust": ("at", "word"),
        "BadStair": ("at",),
        "BadPact": ("at", "word"),
        "BadRoll": ("at",),
        "BadScheme": ("at", "word"),
    },
    "CallError": {"NotUsable": ("word",), "NotFor": ("word",)},
    "RunError": {"BadMove": ("at", "word")},
    "TextError": {"BadText": ("line", "word")},
    "ShelfError": {"NoSuch": ("word",), "Taken": ("word",), "NothingToUndo": ()},
}
EACH = [(family, name, fields) for family, rows in FAMILIES.items() for name, fields in rows.items()]


class ErrorTests(unittest.TestCase):
    def test_families(self):
        self.assertEqual(errors.AssentError.__bases__, (ValueError,))
        for family in FAMILIES:
            self.assertEqual(getattr(errors, family).__bases__, (errors.AssentError,))

    def test_each_stands_directly_in_its_family(self):
        for family, name, _ in EACH:
            self.assertEqual(getattr(errors, name).__bases__, (getattr(errors, family),), name)

    def test_fields_are_the_very_objects(self):
        for _, name, fields in EACH:
            made = getattr(errors, name)
            for values in (([1], (2, [3])), (True, None), (-1, "x" * 50), (10 ** 60, {})):
                values = values[:len(fields)]
                for error in (made(*values), made(**dict(zip(fields, values)))):
                    self.assertEqual(sorted(vars(error)), sorted(fields), name)
                    for field, value in zip(fields, values):
                        self.assertIs(getattr(error, field), value)

    def test_just_their_fields(self):
        for _, name, fields in EACH:
            made = getattr(errors, name)
            with self.assertRaises(TypeError):
                made(*fields, 0)
            if fields:
                with self.assertRaises(TypeError):
                    made(*fields[1:])

    def test_caught_by_family_and_base(self):
        for family, name, fields in EACH:
            for caught in (getattr(errors, family), errors.AssentError, ValueError):
                with self.assertRaises(caught):
                    raise getattr(errors, name)(*fields)

    def test_no_family_catches_another(self):
        for family, name, fields in EACH:
            for other in FAMILIES:
                error = getattr(errors, name)(*fields)
                self.assertEqual(isinstance(error, getattr(errors, other)), other == family)

    def test_nothing_else_is_an_error(self):
        names = {name for _, name, _ in EACH} | set(FAMILIES) | {"AssentError"}
        self.assertEqual({name for name in vars(errors) if not name.startswith("_")}, names)
        self.assertEqual(len(KEPT), 23)


if __name__ == "__main__":
    unittest.main()
