"""The interface, errors.py: BroodError and its subclasses."""

import inspect
import unittest

from broodcounts import errors
from broodcounts.errors import BroodError, ParseError

WITH_TEXT = [
    "InvalidAsk", "InvalidBook", "InvalidBrood", "InvalidFrame", "InvalidKind", "InvalidLine", "InvalidLot",
    "InvalidLots", "InvalidMatch", "InvalidName", "InvalidNet", "InvalidNumber", "InvalidPath", "InvalidRule",
    "InvalidRules", "InvalidSigns", "InvalidTree", "InvalidWish", "NothingOpen", "NothingToUndo", "TooMany",
    "UnknownName", "UnknownSign",
]


class ErrorsTest(unittest.TestCase):
    def test_base_is_a_direct_subclass_of_value_error(self):
        self.assertEqual(BroodError.__bases__, (ValueError,))

    def test_each_is_a_direct_subclass_of_the_base_alone(self):
        for name in WITH_TEXT + ["ParseError"]:
            with self.subTest(name=name):
                self.assertEqual(getattr(errors, name).__bases__, (BroodError,))

    def test_none_is_a_subclass_of_another(self):
        classes = [getattr(errors, name) for name in WITH_TEXT + ["ParseError"]]
        for one in classes:
            self.assertEqual([other for other in classes if issubclass(one, other)], [one])

    def test_each_is_defined_in_errors_and_no_other_is(self):
        there = [name for name, thing in vars(errors).items() if inspect.isclass(thing)]
        self.assertEqual(sorted(there), sorted(WITH_TEXT + ["BroodError", "ParseError"]))
        for name in there:
            self.assertEqual(getattr(errors, name).__module__, "broodcounts.errors")
            self.assertEqual(getattr(errors, name).__name__, name)

    def test_str_is_the_string(self):
        for name in WITH_TEXT + ["BroodError"]:
            for text in ("", "what is wrong", "tab\tand\nline"):
                with self.subTest(name=name, text=text):
                    self.assertEqual(str(getattr(errors, name)(text)), text)

    def test_parse_error_has_its_line(self):
        for line in (0, 1, 200):
            self.assertEqual(ParseError(line).line, line)
            self.assertEqual(ParseError(line=line).line, line)
            self.assertIsInstance(str(ParseError(line)), str)

    def test_all_are_caught_as_the_base(self):
        for name in WITH_TEXT:
            with self.assertRaises(BroodError):
                raise getattr(errors, name)("wrong")
        with self.assertRaises(BroodError):
            raise ParseError(2)


if __name__ == "__main__":
    unittest.main()
