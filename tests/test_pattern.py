"""Points 60 and 61 and the interface under pattern.py."""

import inspect
import unittest

from firstway.errors import FirstwayError, FlagsError, PatternError, PositionError
from firstway.meaning.patterns import weight
from firstway.meaning.plain import plain_all, plain_match, plain_search
from firstway.notation.reader import read_pattern
from firstway.pattern import Pattern
from firstway.threads.cores import Prepared, prepare
from tests.helpers import few_calls, small_patterns


class ExamplesTest(unittest.TestCase):

    def test_examples(self):
        found = Pattern("(a)|(?<x>b)").find_all("ab")
        self.assertEqual(found, [(0, 1, ((0, 1), None)), (1, 2, (None, (1, 2)))])
        self.assertEqual(Pattern("a*?b", flags="i").search("xAAb"), (1, 4, ()))
        self.assertEqual([Pattern("[b-d]{0,}x").printed, Pattern("a|(?<n>b)").names], ["[b-d]*x", ("n",)])


class FieldsTest(unittest.TestCase):

    def test_what_is_kept(self):
        pattern = Pattern("(?<n>a)|(b)(?=c)", flags="i")
        tree, names = read_pattern("(?<n>a)|(b)(?=c)", "i")
        self.assertEqual((pattern.source, pattern.flags), ("(?<n>a)|(b)(?=c)", "i"))
        self.assertEqual((pattern.tree, pattern.names), (tree, names))
        self.assertEqual(names, ("n", None))
        prepared = prepare(tree)
        self.assertIsInstance(pattern.prepared, Prepared)
        self.assertEqual(pattern.prepared.core.tree, prepared.core.tree)
        self.assertEqual((pattern.prepared.group_total, len(pattern.prepared.looks)), (2, 1))

    def test_flags(self):
        self.assertEqual(Pattern("a").flags, "")
        for flags in ("", "i", "m", "s", "im", "is", "ms", "ims"):
            self.assertEqual(Pattern("a.^", flags=flags).tree, read_pattern("a.^", flags)[0])

    def test_fields_stay(self):
        pattern = Pattern("a(?=(b))|c")
        before = (pattern.source, pattern.flags, pattern.tree, pattern.names, pattern.prepared, pattern.printed)
        pattern.find_all("abc")
        pattern.search("abc", 1)
        pattern.match_at("abc", 2)
        after = (pattern.source, pattern.flags, pattern.tree, pattern.names, pattern.prepared, pattern.printed)
        self.assertEqual(after, before)

    def test_printed(self):
        self.assertIsInstance(inspect.getattr_static(Pattern, "printed"), property)
        self.assertEqual(Pattern("(?<n>[a])|\\d{2,}?", flags="i").printed, "(?<n>[Aa])|\\d{2,}?")
        self.assertEqual(Pattern("").printed, "")
        self.assertEqual(Pattern("(?:a|b)c$").printed, "(?:a|b)c\\z")

    def test_printed_is_read_again(self):
        for pattern, _ in small_patterns(33, 300):
            again = Pattern(pattern.printed, flags="m")
            self.assertEqual((again.tree, again.names, again.printed), (pattern.tree, pattern.names, pattern.printed))


class RefusedTest(unittest.TestCase):

    def test_flags_come_first(self):
        for flags in ("x", "mi", "I", "ii", " "):
            with self.assertRaises(FlagsError):
                Pattern("(", flags=flags)

    def test_sources(self):
        for source, column, expected in (
            ("a{2,1}", 6, "a count not less than the first"), ("(a", 1, "a closing bracket"), ("]", 1,
             "a backslash ahead of this character"), ("(?<n>)(?<n>)", 7, "another name"),
            ("a" * 101, 1, "a smaller pattern"), ("(?=a)" * 5, 1, "fewer lookarounds"),
            ("(?:" * 9, 25, "less nesting"), ("a{50}b{50}c{51}", 14, "a count up to 50"),
        ):
            with self.assertRaises(PatternError) as caught:
                Pattern(source)
            self.assertEqual((caught.exception.column, caught.exception.expected), (column, expected))

    def test_positions(self):
        pattern = Pattern("a*")
        for text, position in (("ab", -1), ("ab", 3), ("", 1), ("", -1), ("ab", 100)):
            for search in (pattern.match_at, pattern.search):
                with self.assertRaises(PositionError) as caught:
                    search(text, position)
                self.assertIsInstance(caught.exception, FirstwayError)
        self.assertEqual(pattern.match_at("ab", 2), (2, 2, ()))
        self.assertEqual(pattern.search("ab", position=2), (2, 2, ()))
        self.assertEqual(pattern.search("", 0), (0, 0, ()))


class MatchesTest(unittest.TestCase):

    def test_match_at(self):
        pattern = Pattern("(a)(?=(b))|b")
        found = [pattern.match_at("xab", position) for position in range(4)]
        self.assertEqual(found, [None, (1, 2, ((1, 2), (2, 3))), (2, 3, (None, None)), None])

    def test_search(self):
        pattern = Pattern("a+")
        found = [pattern.search("baab", position) for position in range(5)]
        self.assertEqual(found, [(1, 3, ()), (1, 3, ()), (2, 3, ()), None, None])
        self.assertEqual(pattern.search("baab"), (1, 3, ()))

    def test_all_matches(self):
        for source, flags, text, wanted in (
            ("a*", "", "baa", [(0, 0), (1, 3), (3, 3)]), ("", "", "ab", [(0, 0), (1, 1), (2, 2)]),
            ("a", "", "", []), ("", "", "", [(0, 0)]), ("^a", "", "aa\na", [(0, 1)]),
            ("^a", "m", "aa\na", [(0, 1), (3, 4)]), ("a$", "m", "a\na", [(0, 1), (2, 3)]),
            (".+", "", "a\nb", [(0, 1), (2, 3)]), (".+", "s", "a\nb", [(0, 3)]), ("A", "i", "aA", [(0, 1), (1, 2)]),
            ("\\b", "", "ab c", [(0, 0), (2, 2), (3, 3), (4, 4)]), ("(?<=a)|b", "", "ab", [(1, 1)]),
        ):
            pattern = Pattern(source, flags=flags)
            self.assertEqual([match[:2] for match in pattern.find_all(text)], wanted, (source, text))

    def test_each_match_is_a_generator(self):
        pattern = Pattern("(a)|b")
        self.assertTrue(inspect.isgeneratorfunction(Pattern.each_match))
        matches = pattern.each_match("ab")
        self.assertEqual(next(matches), (0, 1, ((0, 1),)))
        self.assertEqual(next(matches), (1, 2, (None,)))
        self.assertRaises(StopIteration, next, matches)
        self.assertEqual(list(pattern.each_match("")), [])

    def test_lists_are_new(self):
        pattern = Pattern("a")
        pattern.find_all("aa").clear()
        self.assertEqual(pattern.find_all("aa"), [(0, 1, ()), (1, 2, ())])

    def test_matches_of_the_meaning(self):
        for pattern, text in small_patterns(60, 700):
            wanted = plain_all(pattern.tree, text)
            self.assertEqual(pattern.find_all(text), wanted, (pattern.printed, text))
            self.assertEqual(list(pattern.each_match(text)), wanted)
            for position in range(len(text) + 1):
                self.assertEqual(pattern.match_at(text, position), plain_match(pattern.tree, text, position))
                self.assertEqual(pattern.search(text, position), plain_search(pattern.tree, text, position))

    def test_great_patterns_in_long_texts(self):
        source = "(?:(a)|(?:ab?){25})*?(?=(?:[ab]{0,10}c)|$)(?<!(c)(?:b?){10}){2}"
        pattern = Pattern(source)
        self.assertTrue(80 <= weight(pattern.tree) <= 100)
        for text in ("ab" * 50, "aabc" * 25, "a" * 100, "abac" * 12 + "ab" * 26):
            with few_calls():
                found = pattern.find_all(text)
            self.assertEqual(found, plain_all(pattern.tree, text))
