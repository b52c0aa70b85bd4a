"""The error classes: their places, arguments and attributes."""

import unittest

from lexiconlines import errors
from lexiconlines.errors import LexiconError, LookupFailed

UNDER_LEXICON = {
    "InvalidText": ["line", "why"], "InvalidNode": ["at"], "InvalidWord": ["word"], "InvalidColor": ["color"],
    "InvalidNumber": ["number"], "InvalidFar": [], "InvalidTerm": ["place"], "InvalidRow": [], "InvalidSign": [],
    "InvalidCode": ["at"], "InvalidFormula": ["place"], "InvalidDeed": ["at"], "TooMany": ["count"],
    "TooDeep": ["depth"], "Unlike": ["level", "sign"], "Alike": ["depth"], "NotWell": ["paper"],
    "HasDense": ["paper"], "NotJoined": [], "WrongColor": ["color"], "Closed": [], "Full": ["most"],
}
UNDER_LOOKUP = {
    "NoWord": ["word", "place"], "NoStep": ["word", "direction", "paper"], "BlockEnds": ["gone"],
    "UnknownNode": ["node"], "NoGap": ["gap"], "NoTriple": ["triple"], "UnknownName": ["name"],
    "UnknownSession": ["number"], "NothingLeft": [],
}
BOTH = [(UNDER_LEXICON, LexiconError), (UNDER_LOOKUP, LookupFailed)]


class ErrorsTest(unittest.TestCase):

    def test_upper_classes(self):
        self.assertEqual(LexiconError.__bases__, (ValueError,))
        self.assertEqual(LookupFailed.__bases__, (LookupError,))
        for upper in (LexiconError, LookupFailed):
            self.assertIsInstance(upper(), upper)
            with self.assertRaises(TypeError):
                upper("word")

    def test_each_class_is_under_its_upper_class_alone(self):
        for table, upper in BOTH:
            for name in table:
                self.assertEqual(getattr(errors, name).__bases__, (upper,), name)

    def test_there_are_no_other_classes(self):
        found = {name for name, value in vars(errors).items() if isinstance(value, type)}
        self.assertEqual(found, {"LexiconError", "LookupFailed", *UNDER_LEXICON, *UNDER_LOOKUP})

    def test_arguments_by_place(self):
        for table, _ in BOTH:
            for name, names in table.items():
                values = [("value", at) for at in range(len(names))]
                error = getattr(errors, name)(*values)
                self.assertEqual([getattr(error, told) for told in names], values, name)

    def test_arguments_by_name(self):
        for table, _ in BOTH:
            for name, names in table.items():
                values = {told: ["value", at] for at, told in enumerate(names)}
                error = getattr(errors, name)(**values)
                for told, value in values.items():
                    self.assertIs(getattr(error, told), value, name)

    def test_wrong_numbers_of_arguments(self):
        for table, _ in BOTH:
            for name, names in table.items():
                with self.assertRaises(TypeError, msg=name):
                    getattr(errors, name)(*[0] * (len(names) + 1))
                if names:
                    with self.assertRaises(TypeError, msg=name):
                        getattr(errors, name)(*[0] * (len(names) - 1))
