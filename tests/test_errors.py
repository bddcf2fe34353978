"""The errors: families, bases and fields ([11] and the interface)."""

import inspect
import unittest

from forcedtables import errors
from tests.samples import any_values

FAMILIES = ("PaperError", "CountError", "LiveError", "TextError")
FIELDS = {
    "InvalidPaper": ("PaperError", ("word", "at")),
    "NotUsable": ("CountError", ("word", "at")),
    "InvalidEvent": ("LiveError", ("event", "reason")),
    "NothingToUndo": ("LiveError", ("steps",)),
    "InvalidText": ("TextError", ("line", "field")),
    "InvalidRow": ("TextError", ("row",)),
}


class Families(unittest.TestCase):
    def test_base(self):
        self.assertEqual(errors.GroupError.__bases__, (ValueError,))
        for name in FAMILIES:
            self.assertEqual(getattr(errors, name).__bases__, (errors.GroupError,))

    def test_each_error_is_directly_of_its_family(self):
        for name, (family, _) in FIELDS.items():
            self.assertEqual(getattr(errors, name).__bases__, (getattr(errors, family),))

    def test_all_are_defined_here_and_no_others(self):
        named = {name for name, thing in vars(errors).items() if inspect.isclass(thing)}
        self.assertEqual(named, {"GroupError", *FAMILIES, *FIELDS})
        for name in named:
            self.assertEqual(getattr(errors, name).__module__, "forcedtables.errors")


class Fields(unittest.TestCase):
    def test_parameters(self):
        for name, (_, fields) in FIELDS.items():
            self.assertEqual(tuple(inspect.signature(getattr(errors, name)).parameters), fields)

    def test_the_very_objects_are_kept(self):
        things = any_values() + [errors.NotUsable("count", -1), object()]
        for name, (_, fields) in FIELDS.items():
            made = getattr(errors, name)
            for at, thing in enumerate(things):
                parts = [thing, things[at - 1]][:len(fields)]
                for error in (made(*parts), made(**dict(zip(fields, parts)))):
                    self.assertEqual(sorted(vars(error)), sorted(fields))
                    for field, part in zip(fields, parts):
                        self.assertIs(getattr(error, field), part)

    def test_neither_more_nor_less(self):
        for name, (_, fields) in FIELDS.items():
            made = getattr(errors, name)
            with self.assertRaises(TypeError):
                made(*fields, "more")
            with self.assertRaises(TypeError):
                made(*fields[1:])

    def test_raised_and_caught(self):
        for name, (family, fields) in FIELDS.items():
            for kind in (getattr(errors, name), getattr(errors, family), errors.GroupError, ValueError):
                with self.assertRaises(kind):
                    raise getattr(errors, name)(*fields)
