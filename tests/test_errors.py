"""[2] and [40]: the errors."""

import unittest

from figurestay import errors
from helper import values_of_all_kinds

FIELDS = {
    "BadValue": ("value",), "TooFine": ("scale",), "NoFigures": (), "BadStep": ("number",),
    "WideColumn": ("name",), "TooWide": ("step",), "NoColumn": ("name",), "BadWorths": ("name",),
    "NotOnce": ("name",), "NoDivisor": (), "Overflow": ("step", "worth"), "NotPlain": ("step",),
    "Divides": ("step",), "NotSteady": ("step",), "NotASum": ("step",), "NotLinear": ("step",),
    "CanOver": ("step", "worths"), "ColumnsDiffer": ("name",), "BadEntry": ("index",), "Gaps": ("way",),
    "BadColumn": ("column",), "BadText": ("value",), "NotAFormula": ("at",), "Taken": ("name",),
    "Unknown": ("name",), "InUse": ("name",), "BadPromise": ("told",), "Broken": ("told", "worths"),
}


class Errors(unittest.TestCase):

    def test_all_are_there_and_nothing_else(self):
        found = [name for name in vars(errors) if isinstance(vars(errors)[name], type)]
        self.assertEqual(sorted(found), sorted(list(FIELDS) + ["FigureError"]))

    def test_each_derives_directly(self):
        self.assertEqual(errors.FigureError.__bases__, (ValueError,))
        for name in FIELDS:
            self.assertEqual(getattr(errors, name).__bases__, (errors.FigureError,), name)
            self.assertEqual(getattr(errors, name).__module__, "figurestay.errors")

    def check(self, error, fields, told):
        self.assertEqual(sorted(vars(error)), sorted(fields))
        for field, value in zip(fields, told):
            self.assertIs(getattr(error, field), value)

    def test_created_by_position_by_name_and_by_both(self):
        for name, fields in FIELDS.items():
            kind = getattr(errors, name)
            told = [object() for _ in fields]
            named = dict(zip(fields, told))
            self.check(kind(*told), fields, told)
            self.check(kind(**named), fields, told)
            self.check(kind(**dict(reversed(list(named.items())))), fields, told)
            if len(fields) == 2:
                self.check(kind(told[0], **{fields[1]: told[1]}), fields, told)

    def test_each_value_is_kept_as_it_is(self):
        for value in values_of_all_kinds():
            for name, fields in FIELDS.items():
                told = [value for _ in fields]
                self.check(getattr(errors, name)(*told), fields, told)
                self.check(getattr(errors, name)(**dict(zip(fields, told))), fields, told)

    def test_errors_are_equal_to_themselves_only(self):
        for name, fields in FIELDS.items():
            one, other = [getattr(errors, name)(*[1 for _ in fields]) for _ in range(2)]
            self.assertEqual(one, one)
            self.assertNotEqual(one, other)

    def test_they_can_be_raised_and_caught_by_their_bases(self):
        for name, fields in FIELDS.items():
            for base in (errors.FigureError, ValueError):
                with self.assertRaises(base):
                    raise getattr(errors, name)(*["x" for _ in fields])


if __name__ == "__main__":
    unittest.main()
