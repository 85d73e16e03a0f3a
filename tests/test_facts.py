"""Points 42 to 44 and the interface under simpler/facts.py."""

import unittest

from firstway.meaning.patterns import weight
from firstway.meaning.plain import plain_match
from firstway.notation.reader import read_pattern
from firstway.sets.named import DIGITS, EVERY, NOTHING
from firstway.simpler.facts import Facts, may_begin
from tests.helpers import chain, few_calls, left_chain, one, small_trees
from tests.oracle import in_set

A = ((97, 98),)
B = ((98, 99),)
C = ((99, 100),)
AB = ((97, 99),)


def told(tree):
    facts = Facts(tree)
    return facts.shortest, facts.longest, facts.begins, facts.needs, facts.anchored


def facts_of(source, flags=""):
    return told(read_pattern(source, flags)[0])


def word_of(source, flags=""):
    return Facts(read_pattern(source, flags)[0]).word


class FactsTest(unittest.TestCase):

    def test_what_takes_nothing(self):
        nothing = (0, 0, NOTHING, (), False)
        for source in ("", "(?=a)", "(?!a)", "(?<=^a)", "(?<!a)", "\\z", "\\b", "\\B"):
            self.assertEqual(facts_of(source), nothing, source)
        for source in ("^", "$"):
            self.assertEqual(facts_of(source, "m"), nothing)
        self.assertEqual(facts_of("^"), (0, 0, NOTHING, (), True))

    def test_sets(self):
        self.assertEqual(facts_of("[ab]"), (1, 1, AB, (AB,), False))
        self.assertEqual(told(("set", ())), (1, 1, (), ((),), False))
        self.assertEqual(told(("set", EVERY)), (1, 1, EVERY, (EVERY,), False))

    def test_sequences(self):
        self.assertEqual(facts_of("ab"), (2, 2, A, (A, B), False))
        self.assertEqual(facts_of("a?b"), (1, 2, AB, (B,), False))
        self.assertEqual(facts_of("ba?"), (1, 2, B, (B,), False))
        self.assertEqual(facts_of("a*b"), (1, None, AB, (B,), False))
        self.assertEqual(facts_of("ba*"), (1, None, B, (B,), False))
        self.assertEqual(facts_of("aba"), (3, 3, A, (A, B, A), False))

    def test_anchored_sequences(self):
        for source, anchored in (
            ("^a", True), ("(?=a)^a", True), ("a^", False), ("a?^", False), ("\\b^a", True), ("(?:a){0}^", True),
            ("(?:(?=a))*^b", True), ("^*a", False), ("^+a", True), ("^{2,3}a", True), ("(^)a", True), ("a{0}^", True),
        ):
            self.assertIs(facts_of(source)[4], anchored, source)

    def test_choices(self):
        self.assertEqual(facts_of("a|bc"), (1, 2, AB, (), False))
        self.assertEqual(facts_of("ab|ba*"), (1, None, AB, (B,), False))
        self.assertEqual(facts_of("a*|b"), (0, None, AB, (), False))
        self.assertEqual(facts_of("aba|ca"), (2, 3, ((97, 98), (99, 100)), (A, A), False))
        self.assertEqual(facts_of("ca|aba")[3], (A,))
        self.assertEqual([facts_of(source)[4] for source in ("^a|^b", "^a|b", "a|^b")], [True, False, False])

    def test_repeats(self):
        self.assertEqual(facts_of("(?:ab)*"), (0, None, A, (), False))
        self.assertEqual(facts_of("(?:ab)+?"), (2, None, A, (A, B), False))
        self.assertEqual(facts_of("(?:ab?){2,3}"), (2, 6, A, (A,), False))
        self.assertEqual(facts_of("(?:a*){2,3}"), (0, None, A, (), False))
        self.assertEqual(facts_of("(?:^a){0,3}"), (0, 3, A, (), False))
        self.assertEqual(facts_of("(?:^ab){0}"), (0, 0, NOTHING, (), False))
        self.assertEqual(facts_of("(?:a*){0}"), (0, 0, NOTHING, (), False))
        self.assertEqual(facts_of("(?:^)+"), (0, 0, NOTHING, (), True))
        self.assertEqual(facts_of("(?:\\b)*"), (0, 0, NOTHING, (), False))
        self.assertEqual(facts_of("(?:(?:)){3,}"), (0, 0, NOTHING, (), False))

    def test_groups(self):
        self.assertEqual(facts_of("(a|bc)"), facts_of("a|bc"))
        self.assertEqual(facts_of("(^\\d)"), (1, 1, DIGITS, (DIGITS,), True))

    def test_facts_hold_for_all_matches(self):
        for tree, text, _, _ in small_trees(42, 1500):
            shortest, longest, begins, needs, anchored = told(tree)
            for position in range(len(text) + 1):
                found = plain_match(tree, text, position)
                if found:
                    taken = text[position:found[1]]
                    self.assertTrue(shortest <= len(taken) and (longest is None or len(taken) <= longest))
                    self.assertTrue(taken == "" or in_set(begins, taken[0]))
                    for codes in needs:
                        self.assertTrue([sign for sign in taken if in_set(codes, sign)])
                    self.assertTrue(not anchored or position == 0)

    def test_great_trees(self):
        with few_calls():
            for nested in (chain, left_chain):
                sequence = nested("sequence", [one("a"), one("b")] * 1000)
                self.assertEqual(weight(sequence), 2000)
                self.assertEqual(told(sequence), (2000, 2000, A, (A, B) * 1000, False))
                self.assertEqual(Facts(sequence).word, "ab" * 1000)
                choice = nested("choice", [one("a"), one("b")] * 1000)
                self.assertEqual(told(choice), (1, 1, AB, (), False))
                looks = nested("sequence", [("look", True, True, one("a"))] * 2000)
                self.assertEqual(told(looks), (0, 0, NOTHING, (), False))
            two = ("choice", chain("sequence", [one("a")] * 1000), chain("sequence", [one("a")] * 1000))
            self.assertEqual(told(two), (1000, 1000, A, (A,) * 1000, False))


class WordTest(unittest.TestCase):

    def test_words(self):
        for source, word in (
            ("", ""), ("a", "a"), ("abc", "abc"), ("(?:ab)(?:(?:)c)", "abc"), ("\\n\\t \\.", "\n\t ."), ("[b]", "b"),
            ("(?:)", ""), ("\\x41", "A"),
        ):
            self.assertEqual(word_of(source), word, source)

    def test_without_words(self):
        for source in (
            "[ab]", "a|a", "(a)", "a{1}", "a{0}", "^", "(?=a)", "a(b)", "ab?", "\\x00", "\\x0d", "\\x25", "a\\x7f", "[]",
            "a^", "()",
        ):
            self.assertIsNone(word_of(source), source)
        self.assertIsNone(word_of("a", "i"))
        self.assertEqual(word_of("1", "i"), "1")


class MayBeginTest(unittest.TestCase):

    def begins(self, source, text):
        facts = Facts(read_pattern(source, "")[0])
        return [position for position in range(len(text) + 1) if may_begin(facts, text, position)]

    def test_by_hand(self):
        for source, text, wanted in (
            ("abc", "abcabc", [0, 3]), ("abc", "aaa", []), ("a..", "aaaa", [0, 1]), ("", "ab", [0, 1, 2]),
            ("a*", "ba", [0, 1, 2]), ("^a", "aa", [0]), ("^a?", "ba", [0]), ("^a", "ba", []), ("ab*c", "aacba", [0, 1]),
            ("a", "", []), ("", "", [0]), ("b|c", "abc", [1, 2]), ("(?=c)a", "ab", [0]), ("a[]", "ab", []),
            ("[ab]b", "abab", [0, 1, 2]), ("(?:ab)+", "abba", [0]),
        ):
            self.assertEqual(self.begins(source, text), wanted, (source, text))

    def test_answers_are_true_or_false(self):
        facts = Facts(one("a"))
        self.assertIs(may_begin(facts, "ab", 0), True)
        self.assertIs(may_begin(facts, "ab", 1), False)
        self.assertIs(may_begin(facts, "ab", 2), False)

    def test_word_by_word(self):
        for tree, text, _, _ in small_trees(44, 1500):
            facts = Facts(tree)
            for i in range(len(text) + 1):
                wanted = (
                    i + facts.shortest <= len(text)
                    and (facts.shortest == 0 or in_set(facts.begins, text[i]))
                    and (not facts.anchored or i == 0)
                    and all(any(in_set(codes, sign) for sign in text[i:]) for codes in facts.needs)
                )
                self.assertIs(may_begin(facts, text, i), wanted, (tree, text, i))
                if not wanted:
                    self.assertIsNone(plain_match(tree, text, i), (tree, text, i))
