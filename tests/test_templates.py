"""Points 97 to 99 and the interface under replacing/templates.py."""

import unittest

from firstway.errors import TemplateError
from firstway.replacing.templates import filled, read_template

NAMES = (None, "left", "x_1") + (None,) * 9


class ReadTemplateTest(unittest.TestCase):

    def test_parts(self):
        for template, wanted in (
            ("", []), ("ab", [("text", "ab")]), ("$$", [("text", "$")]), ("$&", [("match",)]), ("$[", [("before",)]),
            ("$]", [("behind",)]), ("${0}", [("group", 0)]), ("${11}", [("group", 11)]), ("${left}", [("group", 1)]),
            ("${x_1}", [("group", 2)]), ("${1}", [("group", 1)]),
            ("a$$b$$$$c", [("text", "a$b$$c")]), ("$$$&$$", [("text", "$"), ("match",), ("text", "$")]),
            ("$&$&", [("match",), ("match",)]), ("a}b{c", [("text", "a}b{c")]), ("$${0}", [("text", "${0}")]),
            ("${0}}", [("group", 0), ("text", "}")]), ("$[$]", [("before",), ("behind",)]),
            ("<${0}$&>\n", [("text", "<"), ("group", 0), ("match",), ("text", ">\n")]),
            ("[&]", [("text", "[&]")]),
        ):
            self.assertEqual(read_template(template, NAMES), wanted, template)

    def test_errors(self):
        for template, column in (
            ("$", 1), ("ab$", 3), ("$$$", 3), ("$a", 1), ("a$0", 2), ("$ ", 1), ("$\n", 1), ("$}", 1), ("$(", 1),
            ("${", 1), ("${0", 1), ("${0x", 1), ("a${left.", 2), ("a${left", 2), ("${}", 1), ("${12}", 1), ("${00}", 1), ("${01}", 1),
            ("${ 0}", 1), ("${0 }", 1), ("${-1}", 1), ("${+1}", 1), ("${Left}", 1), ("${lef}", 1), ("${lefty}", 1),
            ("${None}", 1), ("${${0}}", 1), ("$&${0}$", 7), ("${0}${y}$x", 5), ("a$$${", 4), ("$x${", 1),
            ("$${$", 4), ("${0x", 1), ("a${left.", 2), ("${" + "9" * 90 + "}", 1), ("${$&}", 1), ("x$&$", 4),
        ):
            with self.assertRaises(TemplateError) as caught:
                read_template(template, NAMES)
            self.assertEqual(caught.exception.column, column, template)

    def test_patterns_without_groups(self):
        for template in ("${0}", "${a}", "${}"):
            with self.assertRaises(TemplateError) as caught:
                read_template("-" + template, ())
            self.assertEqual(caught.exception.column, 2)

    def test_long_templates(self):
        self.assertEqual(read_template("$$" * 50, ()), [("text", "$" * 50)])
        self.assertEqual(read_template("$&" * 50, ()), [("match",)] * 50)

    def test_returned_lists_are_new(self):
        read_template("$&", ()).clear()
        self.assertEqual(read_template("$&", ()), [("match",)])


class FilledTest(unittest.TestCase):

    def test_filled(self):
        match = (2, 4, ((2, 3), None, (3, 3)))
        for parts, wanted in (
            ([], ""), ([("text", "a$")], "a$"), ([("match",)], "cd"), ([("before",)], "ab"), ([("behind",)], "ef"),
            ([("group", 0)], "c"), ([("group", 1)], ""), ([("group", 2)], ""),
            ([("behind",), ("text", "-"), ("match",), ("match",), ("group", 0)], "ef-cdcdc"),
        ):
            self.assertEqual(filled(parts, "abcdef", match), wanted)

    def test_at_the_ends(self):
        parts = [("before",), ("text", "|"), ("behind",)]
        self.assertEqual(filled(parts, "ab", (0, 0, ())), "|ab")
        self.assertEqual(filled(parts, "ab", (2, 2, ())), "ab|")
        self.assertEqual(filled(parts, "", (0, 0, ())), "|")

    def test_groups_outside_of_the_match(self):
        self.assertEqual(filled([("group", 0)], "abc", (1, 2, ((2, 3),))), "c")
