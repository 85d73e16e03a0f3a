"""Point 45 and the interface under simpler/skips.py."""

import unittest

from firstway.errors import NoWord, PositionError
from firstway.meaning.plain import plain_search
from firstway.pattern import Pattern
from firstway.simpler.facts import Facts
from firstway.simpler.skips import skip_search, word_search
from tests.helpers import few_calls, small_patterns


class SkipSearchTest(unittest.TestCase):

    def test_by_hand(self):
        pattern = Pattern("(a)(?=(b))|c")
        self.assertEqual(skip_search(pattern, "aab"), (1, 2, ((1, 2), (2, 3))))
        self.assertEqual(skip_search(pattern, "aabc", 2), (3, 4, (None, None)))
        self.assertIsNone(skip_search(pattern, "aab", 2))
        self.assertIsNone(skip_search(pattern, ""))
        self.assertEqual(skip_search(Pattern(""), "ab", position=2), (2, 2, ()))
        self.assertIsNone(skip_search(Pattern("^a"), "aa", 1))

    def test_positions(self):
        for text, position in (("ab", -1), ("ab", 3), ("", 1)):
            with self.assertRaises(PositionError):
                skip_search(Pattern("a"), text, position)

    def test_what_searching_finds(self):
        for pattern, text in small_patterns(45, 700):
            for position in range(len(text) + 1):
                wanted = plain_search(pattern.tree, text, position)
                self.assertEqual(skip_search(pattern, text, position), wanted, (pattern.printed, text, position))

    def test_great_patterns_in_long_texts(self):
        with few_calls():
            pattern = Pattern("a(?:a?){48}(?:.?){50}b")
            self.assertIsNone(skip_search(pattern, "a" * 100))
            self.assertEqual(skip_search(pattern, "c" * 50 + "a" * 49 + "b"), (50, 100, ()))


class WordSearchTest(unittest.TestCase):

    def test_by_hand(self):
        pattern = Pattern("ab")
        self.assertEqual(word_search(pattern, "aabab"), (1, 3, ()))
        self.assertEqual(word_search(pattern, "aabab", 1), (1, 3, ()))
        self.assertEqual(word_search(pattern, "aabab", position=2), (3, 5, ()))
        self.assertIsNone(word_search(pattern, "aabab", 4))
        self.assertIsNone(word_search(pattern, "aabab", 5))
        self.assertEqual([word_search(Pattern(""), "ab", i) for i in range(3)], [(0, 0, ()), (1, 1, ()), (2, 2, ())])
        self.assertIsNone(word_search(pattern, ""))

    def test_patterns_without_a_word_come_first(self):
        for source in ("(ab)", "[ab]", "a*", "^", "a|b"):
            for position in (0, -1, 9):
                with self.assertRaises(NoWord):
                    word_search(Pattern(source), "ab", position)
        with self.assertRaises(NoWord):
            word_search(Pattern("a", flags="i"), "a")

    def test_positions(self):
        for text, position in (("ab", -1), ("ab", 3), ("", 1)):
            with self.assertRaises(PositionError):
                word_search(Pattern("a"), text, position)

    def test_what_searching_finds(self):
        patterns = [Pattern(source) for source in ("", "a", "aa", "aab", "ab", "b ", "a\\na")]
        for pattern, text in small_patterns(46, 300):
            if Facts(pattern.tree).word is not None:
                patterns.append(pattern)
            for other in patterns[-7:]:
                for position in range(len(text) + 1):
                    wanted = plain_search(other.tree, text, position)
                    self.assertEqual(word_search(other, text, position), wanted)
                    self.assertEqual(skip_search(other, text, position), wanted)
