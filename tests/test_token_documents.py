"""Points 85 and 108 to 110 and the interface under scanners/token_documents.py."""

import random
import unittest

from firstway.documents.edits import edited
from firstway.errors import CountError, LengthError, PositionError
from firstway.scanners.scanner import Scanner
from firstway.scanners.token_documents import TokenDocument
from tests import scanner_oracle
from tests.helpers import few_calls
from tests.test_kept import row_of_edits
from tests.test_scanner import scanners

WORDS = "word 1 - [a-z]+\n"


def told(document):
    return document.text, document.work, document.tokens(), document.seen()


class TokenDocumentTest(unittest.TestCase):

    def test_example(self):
        document = TokenDocument(Scanner(WORDS), "ab cd")
        work = document.edit(1, 1, "x")
        self.assertEqual(
            [work, document.tokens(), document.seen()], [2, [("word", 0, 2), (None, 2, 3), ("word", 3, 5)], [3, 6, 6]])

    def test_a_new_document(self):
        document = TokenDocument(Scanner(WORDS), "ab cd")
        self.assertEqual(told(document), ("ab cd", 3, [("word", 0, 2), (None, 2, 3), ("word", 3, 5)], [3, 6, 6]))
        self.assertEqual(told(TokenDocument(Scanner(""), "")), ("", 0, [], []))
        self.assertEqual(told(TokenDocument(Scanner(""), "ab")), ("ab", 1, [(None, 0, 2)], [3]))

    def test_lengths(self):
        scanner = Scanner(WORDS)
        self.assertEqual(TokenDocument(scanner, "a" * 100).tokens(), [("word", 0, 100)])
        with self.assertRaises(LengthError):
            TokenDocument(scanner, "a" * 101)
        document = TokenDocument(scanner, "a" * 100)
        before = told(document)
        for edit, error in (
            ((0, 0, "x"), LengthError), ((100, 0, "x"), LengthError), ((5, 1, "xy"), LengthError),
            ((101, 0, ""), PositionError), ((-1, 0, ""), PositionError), ((0, 101, ""), CountError),
            ((0, -1, ""), CountError), ((101, -1, "x" * 200), PositionError), ((100, 1, "x" * 200), CountError),
        ):
            with self.assertRaises(error):
                document.edit(*edit)
            self.assertEqual(told(document), before)
        self.assertEqual(document.edit(50, 1, " "), 3)

    def test_work(self):
        for text, edit, work, tokens in (
            ("ab cd ef", (4, 1, "x"), 3, [(0, 2), (2, 3), (3, 5), (5, 6), (6, 8)]),
            ("ab cd ef", (0, 0, ""), 1, [(0, 2), (2, 3), (3, 5), (5, 6), (6, 8)]),
            ("ab cd ef", (8, 0, ""), 2, [(0, 2), (2, 3), (3, 5), (5, 6), (6, 8)]),
            ("ab cd ef", (0, 3, ""), 1, [(0, 2), (2, 3), (3, 5)]),
            ("ab cd ef", (0, 0, "x "), 3, [(0, 1), (1, 2), (2, 4), (4, 5), (5, 7), (7, 8), (8, 10)]),
            ("ab cd ef", (2, 1, ""), 1, [(0, 4), (4, 5), (5, 7)]), ("ab cd ef", (0, 8, ""), 0, []),
            ("", (0, 0, "ab"), 1, [(0, 2)]), ("", (0, 0, ""), 0, []), ("ab", (2, 0, "c"), 1, [(0, 3)]),
        ):
            document = TokenDocument(Scanner(WORDS), text)
            old = scanner_oracle.rows(Scanner(WORDS).rules, text)
            _, slow = scanner_oracle.rows_behind(Scanner(WORDS).rules, old, edited(text, edit), edit, False)
            self.assertEqual(slow, work, (text, edit))
            self.assertEqual(document.edit(*edit), work, (text, edit))
            self.assertEqual(document.work, work)
            self.assertEqual([(start, stop) for _, start, stop in document.tokens()], tokens)

    def test_looks_find_all_anew(self):
        document = TokenDocument(Scanner("a 0 - a(?=.*x)\nb 0 - ."), "aa b")
        self.assertEqual(document.work, 4)
        self.assertEqual(document.edit(3, 1, "x"), 4)
        self.assertEqual([name for name, _, _ in document.tokens()], ["a", "a", "b", "b"])
        self.assertEqual(document.edit(0, 0, ""), 4)

    def test_seen_moves_with_the_token(self):
        document = TokenDocument(Scanner(WORDS), "a b c d")
        self.assertEqual(document.edit(0, 0, "xx"), 1)
        self.assertEqual(document.seen(), [4, 6, 6, 8, 8, 10, 10])
        self.assertEqual(document.edit(0, 4, ""), 1)
        self.assertEqual((document.tokens(), document.seen()), (TokenDocument(Scanner(WORDS), "b c d").tokens(), [2, 4, 4, 6, 6]))

    def test_returned_lists_are_new(self):
        document = TokenDocument(Scanner(WORDS), "a b")
        before = told(document)
        document.tokens().clear()
        document.seen().clear()
        self.assertEqual(told(document), before)

    def test_two_documents_of_one_scanner(self):
        scanner = Scanner(WORDS)
        first, other = TokenDocument(scanner, "a b"), TokenDocument(scanner, "c")
        before = told(other)
        first.edit(0, 1, "")
        self.assertEqual(told(other), before)

    def test_any_row_of_edits(self):
        chance = random.Random(109)
        moved = 0
        for scanner, text in scanners(109, 600, most=3):
            document = TokenDocument(scanner, text)
            rows = scanner_oracle.rows(scanner.rules, text)
            self.assertEqual(document.work, len(rows))
            for edit, new in row_of_edits(chance, text, 5):
                rows, made = scanner_oracle.rows_behind(scanner.rules, rows, new, edit, scanner.has_looks())
                self.assertEqual(document.edit(*edit), made)
                self.assertEqual(document.work, made)
                self.assertEqual(document.text, new)
                self.assertEqual(list(zip(document.tokens(), document.seen())), rows)
                self.assertEqual(rows, scanner_oracle.rows(scanner.rules, new))
                moved += made < len(rows)
        self.assertGreater(moved, 120)

    def test_long_texts(self):
        with few_calls():
            document = TokenDocument(Scanner("w 1 - \\w+\ns 0 - \\s"), "ab " * 33)
            self.assertEqual(document.work, 66)
            self.assertEqual(document.edit(50, 1, "x"), 1)
            self.assertEqual(document.tokens(), Scanner("w 1 - \\w+\ns 0 - \\s").tokens(document.text))
