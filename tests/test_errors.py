"""c10: the errors, each with its fields."""

import unittest

from formflow import errors

FIELDS = {
    "BadText": ("token", "reason"),
    "BadLine": ("line",),
    "BadForm": (),
    "BadEdit": ("reason",),
    "BadMerge": ("reason",),
    "BadSaved": ("line",),
    "BadTemplate": ("place", "reason"),
    "BadArgument": ("reason",),
    "BadJournal": ("place",),
}


class ErrorsTest(unittest.TestCase):
    def test_base_of_all(self):
        self.assertEqual(errors.FlowError.__bases__, (ValueError,))
        for name in FIELDS:
            self.assertTrue(issubclass(getattr(errors, name), errors.FlowError), name)

    def test_none_is_a_base_of_another(self):
        for name in FIELDS:
            for other in FIELDS:
                if name != other:
                    self.assertFalse(issubclass(getattr(errors, name), getattr(errors, other)))

    def test_fields(self):
        for name, fields in FIELDS.items():
            told = tuple(f"worth of {field}" for field in fields)
            error = getattr(errors, name)(*told)
            self.assertEqual(tuple(getattr(error, field) for field in fields), told)

    def test_fields_by_keyword(self):
        for name, fields in FIELDS.items():
            error = getattr(errors, name)(**{field: field for field in fields})
            self.assertEqual([getattr(error, field) for field in fields], list(fields))

    def test_number_of_fields(self):
        for name, fields in FIELDS.items():
            if fields:
                with self.assertRaises(TypeError):
                    getattr(errors, name)(*fields, "one more")
                with self.assertRaises(TypeError):
                    getattr(errors, name)(*fields[1:])

    def test_raised_and_caught(self):
        with self.assertRaises(errors.FlowError):
            raise errors.BadForm()
        with self.assertRaises(ValueError):
            raise errors.BadText(3, "unexpected token")


if __name__ == "__main__":
    unittest.main()
