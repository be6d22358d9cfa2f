"""The errors of the interface: their fields, and what stands below what."""

import unittest

from gapsame import errors

FIELDS = {
    "BadNumber": ("part",), "BadSquare": ("part",), "BadKind": ("part",), "BadGame": ("part",),
    "BadPosition": ("part",), "BadMove": ("part",), "BadPlay": ("part",), "BadPaper": ("part",),
    "BadWords": ("part",), "Misfit": ("part",), "NoName": ("value",), "Twice": ("value",),
    "TooMany": ("what", "most"), "Nothing": (), "Over": (), "BadText": ("line", "item"),
    "BadLine": ("line", "error"),
}


class Unwritable:
    """A value that can be neither written nor compared."""

    __hash__ = None

    def __repr__(self):
        raise RuntimeError

    __str__ = __format__ = __eq__ = __bool__ = __repr__


VALUES = ("m", "", 0, -1, True, None, 1.5, b"x", 10 ** 6000, [1, [2]], (1, [2]), {"a": []}, {1}, int, Unwritable())


class Errors(unittest.TestCase):
    def each(self):
        for name, fields in FIELDS.items():
            with self.subTest(error=name):
                yield getattr(errors, name), fields

    def assert_fields(self, error, fields, values):
        self.assertEqual(tuple(sorted(vars(error))), tuple(sorted(fields)))
        for field, value in zip(fields, values):
            self.assertIs(getattr(error, field), value)

    def test_by_place(self):
        for made, fields in self.each():
            for first in VALUES:
                for second in VALUES:
                    values = (first, second)[:len(fields)]
                    self.assert_fields(made(*values), fields, values)

    def test_by_name(self):
        for made, fields in self.each():
            for first in VALUES:
                for second in VALUES:
                    values = (first, second)[:len(fields)]
                    self.assert_fields(made(**dict(zip(fields, values))), fields, values)
                    turned = dict(list(zip(fields, values))[::-1])
                    self.assert_fields(made(**turned), fields, values)

    def test_first_by_place_second_by_name(self):
        self.assert_fields(errors.TooMany("orders", most=200), ("what", "most"), ("orders", 200))
        self.assert_fields(errors.BadText(0, item=4), ("line", "item"), (0, 4))
        self.assert_fields(errors.BadLine(3, error=None), ("line", "error"), (3, None))

    def test_fields_are_kept_as_they_were_passed(self):
        rows = [1, [2]]
        for made, fields in self.each():
            error = made(*[rows for _ in fields])
            for field in fields:
                self.assertIs(getattr(error, field), rows)
                self.assertIsInstance(getattr(error, field)[1], list)

    def test_bases(self):
        self.assertEqual(errors.FieldError.__bases__, (ValueError,))
        for made, _ in self.each():
            self.assertEqual(made.__bases__, (errors.FieldError,))

    def test_defined_in_their_file(self):
        for name in ("FieldError", *FIELDS):
            self.assertEqual(getattr(errors, name).__module__, "gapsame.errors")

    def test_raised_and_caught(self):
        for made, fields in self.each():
            for base in (made, errors.FieldError, ValueError):
                with self.assertRaises(base):
                    raise made(*fields)

    def test_the_base_is_an_error_by_itself(self):
        with self.assertRaises(ValueError):
            raise errors.FieldError()

    def test_number_of_fields(self):
        for made, fields in self.each():
            with self.assertRaises(TypeError):
                made(*fields, 1)
            if fields:
                with self.assertRaises(TypeError):
                    made(*fields[1:])


if __name__ == "__main__":
    unittest.main()
