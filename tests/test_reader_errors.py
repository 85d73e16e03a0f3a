"""Points 28 to 30: which sources are refused, with which column and expected text."""

import unittest

from firstway.errors import FirstwayError, PatternError
from firstway.notation.reader import read_pattern
from tests.helpers import few_calls

LONG_NAME = "abcdefghij0123456789"

FIRST_STEP = {
    "a backslash ahead of this character": (
        ("]", 1), ("a]", 2), ("}", 1), ("ab}", 3), ("a{2}}", 5), ("[]]", 3), ("(a]", 3),
        ("[-a]", 2), ("[^-a]", 3), ("[-]", 2), ("[-", 2), ("[a-b-c]", 5), ("[\\d-z]", 4), ("[[a]-z]", 5),
        ("[a---b]", 5), ("[a&&-b]", 5), ("[\\d-]", 4), ("[[]-]", 4),
    ),
    "a character behind the backslash": (("\\", 2), ("ab\\", 4), ("[\\", 3), ("[a-\\", 5), ("[a\\", 4)),
    "a known escape": (
        ("\\q", 2), ("a\\1", 3), ("\\Z", 2), ("\\X41", 2), ("\\\n", 2), ("\\\t", 2), ("\\N", 2), ("\\a", 2),
        ("[\\A]", 3), ("[\\z]", 3), ("[\\b]", 3), ("[\\B]", 3), ("[\\q]", 3), ("[a-\\b]", 5), ("[\\\n]", 3),
    ),
    "a digit from 0 to 7": (
        ("\\x", 3), ("\\x8", 3), ("\\xa0", 3), ("\\xg", 3), ("[\\x", 4), ("[\\x]", 4), ("[a-\\x", 6), ("\\x 1", 3),
    ),
    "a hexadecimal digit": (
        ("\\x4", 4), ("\\x4g", 4), ("\\x7G", 4), ("\\x4\\", 4), ("[\\x4", 5), ("[\\x4]", 5), ("[a-\\x6-]", 7),
        ("\\x0@", 4), ("\\x0`", 4), ("\\x0/", 4), ("\\x0:", 4),
    ),
    ": = ! or <": (("(?", 3), ("a(?a)", 4), ("(?)", 3), ("(??)", 3), ("(?P<a>)", 3), ("(?>a)", 3), ("(?*", 3)),
    "= ! or a name": (("(?<", 4), ("(?<>a)", 4), ("(?<1>)", 4), ("(?<-", 4), ("a(?< a>)", 5), ("(?<:", 4)),
    "the end of the name": (
        ("(?<a", 5), ("(?<ab", 6), ("(?<a-b>)", 5), ("(?<a b>)", 5), ("(?<a=b>)", 5),
        ("(?<" + LONG_NAME + "x>)", 24), ("(?<" + LONG_NAME, 24), ("(?<" + LONG_NAME + "-", 24), ("(?<_", 5),
    ),
    "the end of the class": (
        ("[", 2), ("[^", 3), ("[a", 3), ("[a-", 4), ("[a&", 4), ("[a--", 5), ("[a&&", 5), ("[a[b]", 6),
        ("[[[[", 5), ("x[a-z", 6), ("[\\d", 4), ("[\\n-a", 6), ("[a)(", 5),
    ),
    "a character behind the hyphen": (
        ("[a-]", 4), ("[a-[b]]", 4), ("[a-&&b]", 4), ("[a-\\d]", 4), ("[a-\\W]", 4), ("[a-\\s", 4), ("[&-&&a]", 4),
        ("[[[[a-[", 7), ("[\\x41-]", 7),
    ),
    "a character not less than the first": (
        ("[b-a]", 4), ("[z-\\x41]", 4), ("[\\n-\\t]", 5), ("[a-A]", 4), ("[a-&b]", 4), ("[b-\\-]", 4), ("[a-\n]", 4),
    ),
    "something ahead of the operator": (
        ("[--a]", 2), ("[&&a]", 2), ("[^--a]", 3), ("[^&&]", 3), ("[--", 2), ("[---a]", 2), ("[&&&a]", 2),
        ("[[--a]]", 3), ("[a[&&", 4),
    ),
    "something behind the operator": (
        ("[a--]", 5), ("[a&&]", 5), ("[a--&&b]", 5), ("[a&&&&b]", 5), ("[a----b]", 5), ("[a--b&&]", 8),
        ("[^a--]", 6), ("[[]--]", 6),
    ),
    "less nesting": (("[[[[[", 5), ("[[[[a[", 6), ("[a[b[c[d[e]]]]]", 9), ("[[[[]][[[", 9)),
    "a count": (("a{", 3), ("a{}", 3), ("a{,3}", 3), ("{a", 2), ("a{-1}", 3), ("a{ 1}", 3)),
    "a comma or the end of the count": (("a{1", 4), ("a{12a}", 5), ("a{1 }", 4), ("a{1-2}", 4), ("a{0", 4)),
    "the end of the count": (
        ("a{1,", 5), ("a{1,a}", 5), ("a{1,2", 6), ("a{1,2,3}", 6), ("a{1, 2}", 5), ("a{1,2a}", 6), ("a{1,,", 5),
    ),
    "a count up to 50": (
        ("a{51}", 4), ("a{99", 4), ("a{1,51}", 6), ("a{00051}", 7), ("a{100}", 5), ("a{60,1}", 4), ("a{2,999}", 6),
    ),
    "a count not less than the first": (("a{2,1}", 6), ("a{1,0}", 6), ("a{50,49}", 8), ("a{03,002}", 9)),
}

SECOND_STEP = {
    "less nesting": (
        ("(" * 9, 9), ("(?:" * 9, 25), ("(" * 8 + "(?=a)" + ")" * 8, 9), ("((((((((a(?<b>", 10),
        ("()" + "(" * 9 + ")" * 9, 11),
    ),
    "another name": (
        ("(?<a>)(?<a>)", 7), ("(?<a>(?<a>))", 6), ("(?<a>)|(?<b>)(?<a>", 14), ("(?<a>x)(?=(?<a>y))", 11),
    ),
    "an open bracket": ((")", 1), ("a)", 2), ("(a))", 4), ("a|)(", 3), ("(?:)b)c(", 6)),
    "something to repeat": (
        ("*", 1), ("+a", 1), ("?", 1), ("{2}", 1), ("a**", 3), ("a*??", 4), ("a+{2}", 3), ("a|*", 3), ("(*a)", 2),
        ("(?:+", 4), ("a{2}{3}", 5), ("(a)|?", 5), ("a???", 4), ("(?=*)", 4), ("ab*c**", 6),
    ),
    "fewer repetitions": (
        ("(?:abc){34}", 8), ("(?:a{50}b){2}", 11), ("(?:a{49,}b){2}", 12), ("(?:ab){50,}", 7), ("a{50}(?:abc){34}?", 13),
        ("(?:" + "a" * 101 + ")?", 106), ("(?:(?:a{0}b{50}){2})*", 17), ("(?:(?:a{10}){10}){2}", 18),
    ),
    "a closing bracket": (
        ("(", 1), ("(a", 1), ("a(b(c", 4), ("(a(b)", 1), ("(?:a|(?=b)(?<x>c", 11), ("(()", 1), ("a(?<!", 2),
    ),
    "a smaller pattern": (
        ("a" * 101, 1), ("a{50}b{50}c", 1), ("|" * 100, 1), ("(?:ab){50}(?=c)", 1), ("()" * 101, 1),
        ("a{0}" * 101, 1), ("(?=a)" * 101, 1),
    ),
    "fewer lookarounds": (
        ("(?=a)" * 5, 1), ("(?!a)(?<=b)(?<!c)(?=d(?=e))", 1), ("(?:(?=a){0}){0}(?=a)(?=a)(?=a)(?=a)", 1),
    ),
}

ORDER = (
    ("a)]", 3, "a backslash ahead of this character"),
    ("*a{", 4, "a count"),
    ("(((((((((\\", 11, "a character behind the backslash"),
    ("**)[", 5, "the end of the class"),
    ("*)", 1, "something to repeat"),
    (")*", 1, "an open bracket"),
    ("(*", 2, "something to repeat"),
    ("(" + "a" * 200, 1, "a closing bracket"),
    ("(?=a)" * 5 + "a" * 96, 1, "a smaller pattern"),
    ("(?<a>" + "(" * 7 + "(?<a>", 13, "less nesting"),
    ("]\\", 1, "a backslash ahead of this character"),
    ("a{60}{", 4, "a count up to 50"),
    ("[b-a", 4, "a character not less than the first"),
    ("[b-\\x4", 7, "a hexadecimal digit"),
    ("(?<aa>)(?<aa>" + "*", 8, "another name"),
)


class ErrorsTest(unittest.TestCase):

    def check(self, source, column, expected, flags=""):
        with self.assertRaises(PatternError, msg=source[:40]) as caught:
            read_pattern(source, flags)
        error = caught.exception
        self.assertEqual((error.column, error.expected), (column, expected), source[:40])
        self.assertIsInstance(error, FirstwayError)

    def check_table(self, table):
        for expected, rows in table.items():
            for source, column in rows:
                for flags in ("", "ims"):
                    self.check(source, column, expected, flags)

    def test_first_step(self):
        self.assertEqual(len(FIRST_STEP), 19)
        self.check_table(FIRST_STEP)

    def test_second_step(self):
        self.assertEqual(len(SECOND_STEP), 8)
        self.check_table(SECOND_STEP)

    def test_which_error_comes_first(self):
        for source, column, expected in ORDER:
            self.check(source, column, expected)

    def test_long_sources(self):
        with few_calls():
            for source, column, expected in (
                ("a" * 60000, 1, "a smaller pattern"),
                ("|" * 60000, 1, "a smaller pattern"),
                ("()" * 30000, 1, "a smaller pattern"),
                ("a" * 59999 + "]", 60000, "a backslash ahead of this character"),
                ("(" * 60000, 9, "less nesting"),
                ("[" * 60000, 5, "less nesting"),
                ("[" + "a" * 59999, 60001, "the end of the class"),
                ("a{" + "0" * 59998, 60001, "a comma or the end of the count"),
                ("(" + "a|" * 29999, 1, "a closing bracket"),
                ("a" * 59998 + "**", 60000, "something to repeat"),
                ("(?:" + "a" * 50000 + ")*", 50005, "fewer repetitions"),
                ("[a" + "&&a" * 19000 + "&&]", 57005, "something behind the operator"),
            ):
                self.check(source, column, expected)

    def test_many_names(self):
        names = [f"n{number}" for number in range(6000)]
        source = "".join([f"(?<{name}>)" for name in names])
        self.check(source, 1, "a smaller pattern")
        self.check(source + "(?<n77>)", len(source) + 1, "another name")
