"""Points 95, 100 and 102 and the interface under replacing/rewriting.py."""

import unittest

from firstway.documents.document import Document
from firstway.errors import LengthError, PositionError, TemplateError, UnknownPattern
from firstway.replacing.replace import replace_text
from firstway.replacing.rewriting import edits_for, replace_all, replace_from
from tests.helpers import small_patterns
from tests.test_document import told


def document_of(text, source, flags=""):
    document = Document(text)
    document.add(source, flags=flags)
    return document


class EditsForTest(unittest.TestCase):

    def test_edits(self):
        parts = [("before",), ("text", "-"), ("match",)]
        matches = [(0, 1, ()), (2, 2, ()), (2, 4, ())]
        self.assertEqual(edits_for("abcd", matches, parts), [(2, 2, "ab-cd"), (2, 0, "ab-"), (0, 1, "-a")])
        self.assertEqual(len(matches), 3)
        self.assertEqual(edits_for("abcd", [], parts), [])


class ReplaceAllTest(unittest.TestCase):

    def test_replace_all(self):
        document = document_of("abab", "(a)")
        self.assertEqual(replace_all(document, 0, "<$[${0}$]>"), 2)
        # What a template stands for is that of the text before the first edit.
        self.assertEqual(document.text, "<abab>b<abab>b")
        self.assertEqual(document.undo_edits, ((2, 6, "a"), (0, 6, "a")))
        document.undo()
        self.assertEqual(document.text, "ab<abab>b")
        document.undo()
        self.assertEqual(document.text, "abab")

    def test_work_is_that_of_the_edits(self):
        document = document_of("abab", "a(?=b)")
        other = document.fork()
        self.assertEqual(replace_all(document, 0, "$&x"), 2)
        other.edit_all([(2, 1, "ax"), (0, 1, "ax")])
        self.assertEqual(told(document), told(other))

    def test_no_matches(self):
        document = document_of("abab", "x")
        document.edit(0, 0, "b")
        document.undo()
        before = told(document)
        self.assertEqual(replace_all(document, 0, "y"), 0)
        self.assertEqual(told(document), (before[0], (0, 0), *before[2:]))

    def test_errors(self):
        document = document_of("a" * 60, "a")
        document.edit(0, 0, "")
        before = told(document)
        for call in (replace_all, lambda *given: replace_from(given[0], given[1], 0, given[2])):
            with self.assertRaises(UnknownPattern):
                call(document, 1, "$")
            with self.assertRaises(TemplateError) as caught:
                call(document, 0, "aaaa$")
            self.assertEqual(caught.exception.column, 5)
            with self.assertRaises(LengthError):
                call(document, 0, "xx")
            self.assertEqual(told(document), before)
        for position in (-1, 61):
            with self.assertRaises(UnknownPattern):
                replace_from(document, 1, position, "$")
            with self.assertRaises(PositionError):
                replace_from(document, 0, position, "$")
        self.assertEqual(told(document), before)

    def test_each_text_on_the_way_has_a_bound(self):
        # The last match first: the text grows to 101 characters before it becomes shorter.
        document = document_of("aaab" + "-" * 95, "(a+)b|-\\z")
        with self.assertRaises(LengthError):
            replace_all(document, 0, "${0}xx")
        document = document_of("-" * 98 + "ab", "a|b")
        self.assertEqual(replace_all(document, 0, "x"), 2)
        document = document_of("b" * 3 + "-" * 96 + "a", "(?<x>a)|bbb")
        with self.assertRaises(LengthError):
            replace_all(document, 0, "${x}${x}")
        document = document_of("b" * 3 + "-" * 95 + "a", "(?<x>a)|bbb")
        self.assertEqual(replace_all(document, 0, "${x}${x}"), 2)
        self.assertEqual(document.text, "-" * 95 + "aa")

    def test_as_in_texts(self):
        for pattern, text in small_patterns(102, 300):
            document = document_of(text, pattern.source, pattern.flags)
            template = "<$&$$>" + "".join("${%d}" % group for group in range(len(pattern.names)))
            wanted = replace_text(pattern, text, template)
            if len(wanted) <= 100:
                matches = document.matches(0)
                self.assertEqual(replace_all(document, 0, template), len(matches))
                self.assertEqual(document.text, wanted)
                self.assertEqual(document.matches(0), pattern.find_all(wanted))
                for _ in matches:
                    document.undo()
                self.assertEqual((document.text, document.matches(0)), (text, matches))


class ReplaceFromTest(unittest.TestCase):

    def test_replace_from(self):
        for position, count, text in (
            (0, 3, "x-x-x"), (1, 2, "aa-x-x"), (3, 2, "aa-x-x"), (4, 1, "aa-aa-x"), (8, 0, "aa-aa-aa"), (6, 1, "aa-aa-x"),
        ):
            document = document_of("aa-aa-aa", "a+")
            self.assertEqual(replace_from(document, 0, position, "x"), count, position)
            self.assertEqual(document.text, text)

    def test_matches_without_width(self):
        document = document_of("ab", "")
        self.assertEqual(replace_from(document, 0, 2, "-"), 1)
        self.assertEqual(document.text, "ab-")
        document = document_of("ab", "")
        self.assertEqual(replace_from(document, 0, 1, "$["), 2)
        self.assertEqual(document.text, "aabab")
