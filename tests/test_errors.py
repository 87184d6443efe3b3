"""The errors: their names, their fields, what they are below."""

import unittest

from filledrow import errors
from tests.support import ANY, Case

FIELDS = {
    "BadName": ["value"], "BadAmount": ["value"], "BadWorth": ["value"], "BadTable": ["part"], "BadSide": ["part"],
    "BadFilling": ["part"], "BadPair": ["value"], "BadOrder": ["part"], "BadBars": ["part"], "BadSeen": ["part"],
    "BadOffer": ["part"], "BadRule": ["part"], "BadDay": ["value"], "BadLedger": ["part"], "BadText": ["line", "word"],
    "BadLine": ["word"], "NoName": ["name"], "NoPair": ["pair"], "Lacking": ["name"], "TooMany": ["what", "most"],
    "IsNested": [], "NoChange": [],
}


class Errors(Case):
    def test_no_other_class_is_there(self):
        classes = [name for name, value in vars(errors).items() if isinstance(value, type)]
        self.assertEqual(sorted(classes), sorted([*FIELDS, "FillError"]))

    def test_base(self):
        self.assertEqual(errors.FillError.__bases__, (ValueError,))
        self.assertEqual(str(errors.FillError("why")), "why")
        with self.assertRaises(ValueError):
            raise errors.FillError("why")

    def test_each_is_directly_below_the_base(self):
        for name in FIELDS:
            self.assertEqual(getattr(errors, name).__bases__, (errors.FillError,), name)

    def test_made_by_position_and_by_name(self):
        for name, fields in FIELDS.items():
            made = getattr(errors, name)
            for first in ANY:
                values = [first, "other"][:len(fields)]
                for error in (made(*values), made(**dict(zip(fields, values)))):
                    self.assertEqual(list(vars(error)), fields, name)
                    for field, value in zip(fields, values):
                        self.assertIs(getattr(error, field), value)

    def test_second_field_keeps_any_value(self):
        for value in ANY:
            self.assertIs(errors.BadText(0, value).word, value)
            self.assertIs(errors.TooMany(what=1, most=value).most, value)

    def test_they_can_be_raised_and_caught(self):
        for name, fields in FIELDS.items():
            with self.assertRaises(errors.FillError) as caught:
                raise getattr(errors, name)(*fields)
            self.assertEqual([getattr(caught.exception, field) for field in fields], fields)

    def test_arguments_are_asked_for(self):
        for name, fields in FIELDS.items():
            with self.assertRaises(TypeError):
                raise getattr(errors, name)(*fields[1:], *(["too", "many"] if not fields else []), unknown=1)


if __name__ == "__main__":
    unittest.main()
