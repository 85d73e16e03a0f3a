"""Point 4 and the sections of the interface under errors.py."""

import unittest

from firstway import errors

PLAIN = (
    "PositionError LengthError CountError FlagsError NotASet NoWord ChoiceError FeedEnded "
    "UnknownPattern TooManyPatterns TooManyRules SavedTextError GroupsDiffer GroupInLook TooManyStates"
).split()
WITH_FIELDS = {"PatternError": (3, "a count"), "TemplateError": (7,), "RulesError": (2, 5, "flags")}


class ErrorsTest(unittest.TestCase):

    def test_base(self):
        self.assertEqual(errors.FirstwayError.__bases__, (ValueError,))

    def test_eighteen_direct_subclasses(self):
        names = PLAIN + list(WITH_FIELDS)
        self.assertEqual(len(names), 18)
        for name in names:
            self.assertEqual(getattr(errors, name).__bases__, (errors.FirstwayError,), name)
        self.assertEqual(len(errors.FirstwayError.__subclasses__()), 18)

    def test_plain_errors_are_raised_and_caught(self):
        for name in PLAIN:
            kind = getattr(errors, name)
            with self.assertRaises(errors.FirstwayError) as caught:
                raise kind("what happened")
            self.assertIs(type(caught.exception), kind)
            self.assertEqual(str(caught.exception), "what happened")

    def test_pattern_error(self):
        error = errors.PatternError(3, "a count")
        self.assertEqual((error.column, error.expected), (3, "a count"))
        error = errors.PatternError(column=4, expected="a known escape")
        self.assertEqual((error.column, error.expected), (4, "a known escape"))

    def test_template_error(self):
        self.assertEqual(errors.TemplateError(7).column, 7)
        self.assertEqual(errors.TemplateError(column=8).column, 8)

    def test_rules_error(self):
        error = errors.RulesError(2, 5, "flags")
        self.assertEqual((error.line, error.column, error.expected), (2, 5, "flags"))
        error = errors.RulesError(line=1, column=14, expected="a name")
        self.assertEqual((error.line, error.column, error.expected), (1, 14, "a name"))

    def test_errors_with_fields_are_value_errors(self):
        for name, arguments in WITH_FIELDS.items():
            with self.assertRaises(ValueError):
                raise getattr(errors, name)(*arguments)
