"""[10] and the interface: the errors, their families and fields."""

import unittest

from keptopen import errors

FIELDS = {
    "InvalidPaper": ("PaperError", ("word", "at")),
    "NotUsable": ("HallError", ("word", "at")),
    "InvalidEvent": ("PlayError", ("event", "reason")),
    "NothingToUndo": ("PlayError", ("steps",)),
    "Barred": ("PlayError", ("event", "things")),
    "InvalidText": ("TextError", ("line", "field")),
    "InvalidRow": ("TextError", ("row",)),
}


class Strange:
    """A value that cannot be looked at."""

    def __eq__(self, other):
        raise AssertionError("compared")

    def __str__(self):
        raise AssertionError("written")

    __repr__ = __len__ = __bool__ = __iter__ = __str__
    __hash__ = None


class Errors(unittest.TestCase):
    def test_families(self):
        self.assertEqual(errors.KeepError.__bases__, (ValueError,))
        for name in ("PaperError", "HallError", "PlayError", "TextError"):
            self.assertEqual(getattr(errors, name).__bases__, (errors.KeepError,))
        for name, (family, _) in FIELDS.items():
            self.assertEqual(getattr(errors, name).__bases__, (getattr(errors, family),))

    def test_all_are_defined_here(self):
        for name in list(FIELDS) + ["KeepError", "PaperError", "HallError", "PlayError", "TextError"]:
            self.assertEqual(getattr(errors, name).__module__, "keptopen.errors")

    def test_fields_keep_the_very_objects(self):
        for name, (_, fields) in FIELDS.items():
            values = [Strange() for _ in fields]
            for error in (getattr(errors, name)(*values), getattr(errors, name)(**dict(zip(fields, values)))):
                self.assertEqual(list(vars(error)), list(fields))
                for field, value in zip(fields, values):
                    self.assertIs(getattr(error, field), value)
                with self.assertRaises(getattr(errors, name)):
                    raise error

    def test_constructed_with_exactly_their_fields(self):
        for name, (_, fields) in FIELDS.items():
            for many in (0, len(fields) - 1, len(fields) + 1):
                if many != len(fields):
                    with self.assertRaises(TypeError):
                        getattr(errors, name)(*[None] * many)


if __name__ == "__main__":
    unittest.main()
