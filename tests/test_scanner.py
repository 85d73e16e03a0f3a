"""Points 103 and 106 to 108 and the interface under scanners/offers.py and scanners/scanner.py."""

import random
import unittest

from firstway.errors import RulesError, TooManyRules
from firstway.pattern import Pattern
from firstway.scanners.offers import best_offer, offer
from firstway.scanners.rules import Rule, write_rules
from firstway.scanners.scanner import Scanner
from firstway.threads.passes import view_of
from tests import scanner_oracle
from tests.helpers import few_calls, small_patterns


def rules_of(chance, patterns):
    """A text of rules with these patterns and few priorities."""
    rules = [Rule("r%d" % k, chance.choice((0, 1, 1, 2)), pattern) for k, pattern in enumerate(patterns)]
    return write_rules(rules)


def scanners(seed, count, most=8):
    """Tuples of a Scanner and a text."""
    chance = random.Random(seed)
    found = list(small_patterns(seed, count))
    while found:
        total = chance.randint(0, most)
        now, found = found[:total + 1], found[total + 1:]
        yield Scanner(rules_of(chance, [pattern for pattern, _ in now[1:]])), now[0][1]


class OfferTest(unittest.TestCase):

    def offers(self, source, text, position):
        pattern = Pattern(source)
        return offer(pattern, view_of(pattern.prepared, text), position)

    def test_offers(self):
        for source, text, position, wanted in (
            ("a+", "aab", 0, (2, 3)), ("a+", "aab", 1, (2, 3)), ("a+", "aab", 2, (None, 3)), ("a+", "aa", 0, (2, 3)),
            ("a|ab", "ab", 0, (1, 2)), ("ab|a", "ab", 0, (2, 3)), ("ab|a", "ac", 0, (1, 2)), ("", "ab", 1, (None, 2)),
            ("a*?", "aa", 0, (None, 1)), ("a.*c|a", "abbb", 0, (1, 5)), ("a", "a", 1, (None, 2)), ("", "", 0, (None, 1)),
            ("a(?=b)", "ab", 0, (1, 2)), ("(?<=a)b", "ab", 1, (2, 3)), ("b(?=a)", "ab", 1, (None, 3)),
            ("a\\z", "a", 0, (1, 2)), ("[]", "ab", 0, (None, 1)), ("abc", "abd", 0, (None, 3)),
        ):
            self.assertEqual(self.offers(source, text, position), wanted, (source, text, position))

    def test_word_by_word(self):
        for pattern, text in small_patterns(106, 500):
            view = view_of(pattern.prepared, text)
            for position in range(len(text) + 1):
                found = offer(pattern, view, position)
                self.assertEqual(found, scanner_oracle.offers(pattern, text, position), (pattern.printed, text))
                match = pattern.match_at(text, position)
                self.assertEqual(found[0], match[1] if match and match[1] > position else None)


class BestOfferTest(unittest.TestCase):

    def best(self, rows, text, position=0):
        rules = [Rule("r%d" % k, priority, Pattern(source)) for k, (priority, source) in enumerate(rows)]
        views = [view_of(rule.pattern.prepared, text) for rule in rules]
        return best_offer(rules, views, position)

    def test_best_offers(self):
        for rows, text, wanted in (
            ([(0, "a"), (1, "ab")], "ab", (1, 2, 3)), ([(1, "a"), (0, "ab")], "ab", (0, 1, 3)),
            ([(1, "a"), (1, "ab")], "ab", (1, 2, 3)), ([(1, "ab"), (1, "a")], "ab", (0, 2, 3)),
            ([(1, "a."), (1, "ab"), (1, ".b")], "ab", (0, 2, 3)), ([(1, "x"), (0, "a")], "ab", (1, 1, 2)),
            ([(1, "a*?"), (0, "a")], "ab", (1, 1, 2)), ([], "ab", (None, None, 1)), ([(5, "b")], "ab", (None, None, 1)),
            ([(5, "b"), (0, "a.c")], "abx", (None, None, 3)), ([(0, "a"), (0, ".{9}")], "aaaa", (0, 1, 5)),
            ([(1000, "a"), (2, "ab"), (10, "ab")], "ab", (0, 1, 3)), ([(2, "ab"), (10, "a")], "ab", (1, 1, 3)),
        ):
            self.assertEqual(self.best(rows, text), wanted, (rows, text))

    def test_at_the_end(self):
        self.assertEqual(self.best([(0, "a"), (0, "")], "ab", 2), (None, None, 3))
        self.assertEqual(self.best([], "ab", 2), (None, None, 3))


class ScannerTest(unittest.TestCase):

    def test_example(self):
        scanner = Scanner("word 1 - [a-z]+\nnumber 1 - \\d+\n")
        self.assertEqual(scanner.tokens("ab 12"), [("word", 0, 2), (None, 2, 3), ("number", 3, 5)])

    def test_rules(self):
        scanner = Scanner("# one\na 1 - x\n\nb 2 i y")
        self.assertIsInstance(scanner.rules, tuple)
        self.assertEqual([(rule.name, rule.priority) for rule in scanner.rules], [("a", 1), ("b", 2)])
        self.assertEqual(Scanner("").rules, ())
        self.assertEqual(len(Scanner("".join("r%d 0 - a\n" % k for k in range(8))).rules), 8)

    def test_errors(self):
        nine = "".join("r%d 0 - a\n" % k for k in range(9))
        with self.assertRaises(TooManyRules):
            Scanner(nine)
        with self.assertRaises(RulesError) as caught:
            Scanner(nine + "x 0 - (")
        self.assertEqual((caught.exception.line, caught.exception.column), (10, 7))

    def test_tokens(self):
        for rules, text, wanted in (
            ("a 0 - a+", "", []), ("", "ab", [(None, 0, 2)]), ("", "", []), ("a 0 - a+", "bb", [(None, 0, 2)]),
            ("a 0 - a+", "baab", [(None, 0, 1), ("a", 1, 3), (None, 3, 4)]), ("a 0 - a", "aa", [("a", 0, 1), ("a", 1, 2)]),
            ("a 0 - a*", "bab", [(None, 0, 1), ("a", 1, 2), (None, 2, 3)]),
            ("if 2 - if\nid 1 - [a-z]+", "if ifs", [("if", 0, 2), (None, 2, 3), ("if", 3, 5), ("id", 5, 6)]),
            ("if 1 - if\nid 1 - [a-z]+", "if ifs", [("if", 0, 2), (None, 2, 3), ("id", 3, 6)]),
            ("id 1 - [a-z]+\nif 1 - if", "if", [("id", 0, 2)]), ("a 0 - a(?=b)", "aab", [(None, 0, 1), ("a", 1, 2), (None, 2, 3)]),
            ("b 0 - (?<=a)b", "abb", [(None, 0, 1), ("b", 1, 2), (None, 2, 3)]), ("e 0 - \\Aa", "aa", [("e", 0, 1), (None, 1, 2)]),
        ):
            self.assertEqual(Scanner(rules).tokens(text), wanted, (rules, text))

    def test_token_from(self):
        scanner = Scanner("word 1 - [a-z]+\nnumber 1 - \\d+\n")
        views = scanner.views("ab .12")
        self.assertEqual(scanner.token_from(views, 6, 0), (("word", 0, 2), 3))
        self.assertEqual(scanner.token_from(views, 6, 1), (("word", 1, 2), 3))
        self.assertEqual(scanner.token_from(views, 6, 2), ((None, 2, 4), 7))
        self.assertEqual(scanner.token_from(views, 6, 4), (("number", 4, 6), 7))
        self.assertEqual(Scanner("").token_from([], 3, 1), ((None, 1, 3), 4))
        # What was seen from a position between counts, too.
        scanner = Scanner("a 0 - b.c\nb 0 - d")
        self.assertEqual(scanner.token_from(scanner.views("abxxd"), 5, 0), ((None, 0, 4), 6))
        self.assertEqual(scanner.token_from(scanner.views("-bx-d-"), 6, 0), ((None, 0, 4), 6))
        scanner = Scanner("a 0 - b...c\nb 0 - d")
        self.assertEqual(scanner.token_from(scanner.views("abdxxx"), 6, 0), ((None, 0, 2), 6))

    def test_views(self):
        scanner = Scanner("a 0 - a(?=b)\nb 0 - c")
        first, other = scanner.views("ab")
        self.assertEqual((first.text, first.rows, other.text, other.rows), ("ab", [[False, True, False]], "ab", []))
        self.assertEqual(Scanner("").views("ab"), [])

    def test_has_looks(self):
        for rules, wanted in (
            ("", False), ("a 0 - a", False), ("a 0 - a\nb 0 - a(?=b)", True), ("a 0 - (?<!a)\nb 0 - b", True),
            ("a 0 - (?:(?=a)){0}", True), ("a 0 - \\b^", False),
        ):
            self.assertIs(Scanner(rules).has_looks(), wanted)

    def test_eight_rules(self):
        scanner = Scanner("".join("r%d %d - %s\n" % (k, k // 2, "a" * (k + 1)) for k in range(8)))
        self.assertEqual(scanner.tokens("a" * 15), [("r7", 0, 8), ("r6", 8, 15)])
        self.assertEqual(scanner.tokens("a" * 6), [("r5", 0, 6)])
        self.assertEqual(scanner.tokens("aaa"), [("r2", 0, 3)])

    def test_returned_lists_are_new(self):
        scanner = Scanner("a 0 - a")
        scanner.views("aa").clear()
        scanner.tokens("aa").clear()
        self.assertEqual(scanner.tokens("aa"), [("a", 0, 1), ("a", 1, 2)])

    def test_word_by_word(self):
        for scanner, text in scanners(107, 600):
            wanted = scanner_oracle.rows(scanner.rules, text)
            self.assertEqual(scanner.tokens(text), [token for token, _ in wanted], (write_rules(scanner.rules), text))
            views = scanner.views(text)
            for token, seen in wanted:
                self.assertEqual(scanner.token_from(views, len(text), token[1]), (token, seen))
            for position in range(len(text) + 1):
                self.assertEqual(
                    best_offer(scanner.rules, views, position), scanner_oracle.best(scanner.rules, text, position))

    def test_long_texts(self):
        with few_calls():
            scanner = Scanner("a 0 - (?:a?b?){20}c\nb 0 - b")
            self.assertEqual(len(scanner.tokens("ab" * 50)), 100)
            self.assertEqual(scanner.tokens("-" * 100), [(None, 0, 100)])
