"""Points 63 and 64 and the interface under single/follow.py."""

import unittest

from firstway.errors import ChoiceError, PositionError
from firstway.meaning.plain import plain_match
from firstway.pattern import Pattern
from firstway.single.check import never_chooses
from firstway.single.follow import match_single
from firstway.threads.cores import fresh
from firstway.threads.passes import view_of
from firstway.threads.runs import first_way
from tests import machine_oracle
from tests.helpers import few_calls, small_patterns


class MatchSingleTest(unittest.TestCase):

    def test_by_hand(self):
        for source, text, wanted in (
            ("(a)*b", "aab", [(0, 3, ((1, 2),)), (1, 3, ((1, 2),)), (2, 3, (None,)), None]),
            ("a*", "aab", [(0, 2, ()), (1, 2, ()), (2, 2, ()), (3, 3, ())]),
            ("a*?", "aab", [(0, 0, ()), (1, 1, ()), (2, 2, ()), (3, 3, ())]),
            ("a(?:bc)?", "abb", [(0, 1, ()), None, None, None]),
            ("", "a", [(0, 0, ()), (1, 1, ())]), ("a", "", [None]), ("[]", "a", [None, None]),
            ("(?:\\b(a)|\\B(a))", "aa", [(0, 1, ((0, 1), None)), (1, 2, (None, (1, 2))), None]),
        ):
            pattern = Pattern(source)
            found = [match_single(pattern, text, position) for position in range(len(text) + 1)]
            self.assertEqual(found, wanted, source)

    def test_what_was_kept_last_counts(self):
        self.assertEqual(match_single(Pattern("a(?:b(?:cd)?)?"), "abcc", 0), (0, 2, ()))
        self.assertEqual(match_single(Pattern("a(?:bcd)?"), "abcc", 0), (0, 1, ()))

    def test_choices_within_lookarounds(self):
        pattern = Pattern("(?=(a|ab)(.))a(?<=(a))")
        self.assertIs(never_chooses(pattern.prepared), True)
        self.assertEqual(match_single(pattern, "cab", 1), (1, 2, ((1, 2), (2, 3), (1, 2))))

    def test_positions_come_first(self):
        for source in ("a", "a|a"):
            for text, position in (("ab", -1), ("ab", 3), ("", 1)):
                with self.assertRaises(PositionError):
                    match_single(Pattern(source), text, position)

    def test_patterns_that_leave_a_choice(self):
        for source in ("a|a", "a*a", "(?:(?=x)a|(?!x)a)"):
            with self.assertRaises(ChoiceError):
                match_single(Pattern(source), "", 0)

    def test_the_meaning(self):
        count = 0
        for pattern, text in small_patterns(64, 1500):
            if never_chooses(pattern.prepared):
                count += 1
                for position in range(len(text) + 1):
                    found = match_single(pattern, text, position)
                    self.assertEqual(found, plain_match(pattern.tree, text, position), (pattern.printed, text))
        self.assertGreater(count, 300)

    def test_word_by_word(self):
        for pattern, text in small_patterns(63, 500):
            prepared = pattern.prepared
            if never_chooses(prepared):
                view = view_of(prepared, text)
                for position in range(len(text) + 1):
                    way = machine_oracle.single_way(prepared.core, fresh(prepared), view, position)
                    self.assertEqual(way, first_way(prepared.core, fresh(prepared), view, position))
                    found = match_single(pattern, text, position)
                    self.assertEqual(found and found[:2], way and (position, way[0]))

    def test_great_patterns_in_long_texts(self):
        with few_calls():
            pattern = Pattern("(?:(a)b){30}(c*)*(?=(?:.?){20}$)")
            text = "ab" * 30 + "c" * 40
            self.assertEqual(match_single(pattern, text, 0), (0, 100, ((58, 59), (60, 100))))
            self.assertIsNone(match_single(pattern, text, 2))
