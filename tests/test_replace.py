"""Points 97 and 99 to 101 and the interface under replacing/replace.py."""

import unittest

from firstway.errors import CountError, LengthError, TemplateError
from firstway.pattern import Pattern
from firstway.replacing.replace import cuts_of, replace_text, split_text
from tests.helpers import small_patterns


class ReplaceTest(unittest.TestCase):

    def test_example(self):
        self.assertEqual(replace_text(Pattern("(a)|b"), "abcb", "<${0}$&>"), "<aa><b>c<b>")

    def test_replace(self):
        for source, text, template, wanted in (
            ("a", "bab", "", "bb"), ("a", "bbb", "x", "bbb"), ("", "ab", "-", "-a-b-"), ("b*", "abb", "-", "-a--"),
            ("", "", "x$$", "x$"), ("b", "abc", "$[$]", "aacc"), ("(?<x>a)(b)?", "aab", "[${x}${1}]", "[a][ab]"),
            ("(?=(b))", "ab", "${0}", "abb"), ("a", "aa", "$]|$[", "a||a"), ("\\n", "a\nb", "$$n", "a$nb"),
        ):
            self.assertEqual(replace_text(Pattern(source), text, template), wanted, (source, text, template))

    def test_errors(self):
        pattern = Pattern("a")
        with self.assertRaises(TemplateError) as caught:
            replace_text(pattern, "bbb", "x${0}")
        self.assertEqual(caught.exception.column, 2)
        # The template comes first, also where the result would be too long.
        with self.assertRaises(TemplateError):
            replace_text(pattern, "a" * 100, "x" * 99 + "$")
        with self.assertRaises(LengthError):
            replace_text(Pattern(""), "a" * 100, "x" * 99 + "y")

    def test_length_of_the_result(self):
        self.assertEqual(replace_text(Pattern("a"), "a" * 100, "x" * 100), "x" * 10000)
        with self.assertRaises(LengthError):
            replace_text(Pattern("a|\\z"), "a" * 100, "x" * 100)
        self.assertEqual(len(replace_text(Pattern("a$"), "b" * 99 + "a", "$[" * 50)), 99 + 4950)
        self.assertEqual(len(replace_text(Pattern("\\z"), "b" * 100, "$[" * 50)), 5100)
        # Matches without width at 3, 99 and 100: 100 characters, 49 times 202 more, and three signs.
        text = "--a" + "-" * 95 + "aa"
        self.assertEqual(len(replace_text(Pattern("(?<=a)"), text, "$[" * 49)), 9998)
        with self.assertRaises(LengthError):
            replace_text(Pattern("(?<=a)"), text, "$[" * 49 + "$$")
        with self.assertRaises(LengthError):
            replace_text(Pattern("b{20}"), "b" * 100, "$[$]" * 25 + "$&" * 5)


class SplitTest(unittest.TestCase):

    def test_example(self):
        self.assertEqual(split_text(Pattern(","), "a,,b,"), ["a", "", "b", ""])

    def test_split(self):
        for source, text, wanted in (
            (",", "", [""]), (",", "ab", ["ab"]), (",", ",", ["", ""]), ("", "abc", ["a", "b", "c"]), ("", "", [""]),
            ("", "a", ["a"]), ("b*", "abbc", ["a", "c"]), ("b*", "bbc", ["", "c"]), ("b*", "cbb", ["c", ""]),
            ("a*", "aba", ["", "b", ""]), ("(?=b)", "abab", ["a", "ba", "b"]), ("(?=a)", "abab", ["ab", "ab"]),
            ("\\b", "ab cd", ["ab", " ", "cd"]), (",|", "a,b", ["a", "b"]), ("x|", "xx", ["", "", ""]),
        ):
            self.assertEqual(split_text(Pattern(source), text), wanted, (source, text))

    def test_limits(self):
        comma = Pattern(",")
        for limit, wanted in (
            (0, []), (1, ["a"]), (2, ["a", "b"]), (3, ["a", "b", "c"]), (4, ["a", "b", "c"]), (None, ["a", "b", "c"]),
            (10 ** 9, ["a", "b", "c"]),
        ):
            self.assertEqual(split_text(comma, "a,b,c", limit=limit), wanted)
        for limit in (-1, -100):
            with self.assertRaises(CountError):
                split_text(comma, "a,b,c", limit=limit)
        with self.assertRaises(TypeError):
            split_text(comma, "a,b", 1)

    def test_cuts(self):
        for matches, wanted in (
            ([], []), ([(0, 0, ())], []), ([(4, 4, ())], []), ([(0, 1, ())], [0]), ([(3, 4, ())], [0]),
            ([(1, 1, ()), (2, 2, ())], [0, 1]), ([(1, 2, ()), (2, 2, ())], [0]), ([(1, 2, ()), (2, 3, ())], [0, 1]),
            ([(0, 0, ()), (1, 1, ()), (1, 3, ()), (3, 3, ()), (4, 4, ())], [1, 2]), ([(0, 4, ()), (4, 4, ())], [0]),
        ):
            self.assertEqual(cuts_of("abcd", matches), [matches[k] for k in wanted], matches)

    def test_cuts_keep_the_matches_and_the_list(self):
        matches = [(0, 0, (None,)), (1, 2, ((1, 2),))]
        self.assertEqual(cuts_of("ab", matches), [(1, 2, ((1, 2),))])
        self.assertEqual(len(matches), 2)
        self.assertEqual(cuts_of("", [(0, 0, ())]), [])

    def test_pieces_and_cuts_make_the_text(self):
        for pattern, text in small_patterns(101, 300):
            cuts = cuts_of(text, pattern.find_all(text))
            pieces = split_text(pattern, text)
            self.assertEqual(len(pieces), len(cuts) + 1)
            whole = pieces[0]
            for (start, stop, _), piece in zip(cuts, pieces[1:]):
                whole += text[start:stop] + piece
            self.assertEqual(whole, text)
            for number, (start, stop, _) in enumerate(cuts):
                before = cuts[number - 1][1] if number else 0
                self.assertTrue(start < stop or before < start < len(text))
            self.assertEqual(replace_text(pattern, text, "$&"), text)
