"""Point 2 and the heading "caseslive/errors.py": the error classes and their bases."""

import unittest

from caseslive import errors

WITH_TEXT = [
    "InvalidProcess", "InvalidSetting", "TooLarge", "TooManyWays", "TooManyTraces",
    "NotReached", "NotGood", "Refused", "LogFull",
]
WITH_LINE = ["JournalError", "Changed", "Impossible"]
BASES = {name: ["CaseError"] for name in WITH_TEXT}
BASES["JournalError"] = ["CaseError"]
BASES["Changed"] = ["JournalError", "CaseError"]
BASES["Impossible"] = ["JournalError", "CaseError"]


class ErrorsWithText(unittest.TestCase):
    def test_created_with_a_text(self):
        for name in ["CaseError", *WITH_TEXT]:
            error = getattr(errors, name)("some text")
            self.assertIn("some text", str(error), name)

    def test_caught_as_value_error(self):
        for name in WITH_TEXT:
            with self.assertRaises(ValueError):
                raise getattr(errors, name)("some text")


class ErrorsWithLine(unittest.TestCase):
    def test_the_line_is_kept(self):
        for name in WITH_LINE:
            for line in [1, 2, 300, 12345]:
                self.assertEqual(getattr(errors, name)(line).line, line)

    def test_the_line_is_passed_by_its_name(self):
        for name in WITH_LINE:
            self.assertEqual(getattr(errors, name)(line=7).line, 7)

    def test_the_line_is_there_when_caught_as_any_base(self):
        for base in [errors.JournalError, errors.CaseError, ValueError]:
            for name in ["Changed", "Impossible"]:
                with self.assertRaises(base) as caught:
                    raise getattr(errors, name)(4)
                self.assertEqual(caught.exception.line, 4)

    def test_the_text_tells_the_line(self):
        self.assertIn("31", str(errors.Changed(31)))
        self.assertIn("31", str(errors.Impossible(31)))


class Bases(unittest.TestCase):
    def test_all_are_case_errors_and_value_errors(self):
        self.assertTrue(issubclass(errors.CaseError, ValueError))
        for name in BASES:
            self.assertTrue(issubclass(getattr(errors, name), errors.CaseError), name)
            self.assertTrue(issubclass(getattr(errors, name), ValueError), name)

    def test_each_is_none_of_the_others_but_its_bases(self):
        for name in ["CaseError", *BASES]:
            for other in ["CaseError", *BASES]:
                expected = other == name or other in BASES.get(name, [])
                found = issubclass(getattr(errors, name), getattr(errors, other))
                self.assertEqual(found, expected, (name, other))

    def test_the_first_base_is_the_one_that_is_listed(self):
        for name, bases in BASES.items():
            self.assertEqual(getattr(errors, name).__bases__, (getattr(errors, bases[0]),))
        self.assertEqual(errors.CaseError.__bases__, (ValueError,))

    def test_none_is_another_of_pythons_errors(self):
        for name in ["CaseError", *BASES]:
            for other in [LookupError, TypeError, ArithmeticError, RuntimeError, UnicodeError]:
                self.assertFalse(issubclass(getattr(errors, name), other))


if __name__ == "__main__":
    unittest.main()
