"""Point 111 and the interface under saving/words.py."""

import unittest

from firstway.errors import SavedTextError
from firstway.saving.words import SavedReader, write_number, write_text


class WriteTest(unittest.TestCase):

    def test_written(self):
        self.assertEqual([write_number(n) for n in (0, 7, 10, 999999999)], ["0;", "7;", "10;", "999999999;"])
        for text, wanted in (("", "0;"), ("ab", "2;ab"), (";", "1;;"), ("12;", "3;12;"), ("a\n\t", "3;a\n\t")):
            self.assertEqual(write_text(text), wanted)
        self.assertEqual(write_text("x" * 120), "120;" + "x" * 120)


class SavedReaderTest(unittest.TestCase):

    def refuses(self, text, call):
        """The reader refuses, and then nothing was read."""
        reader = SavedReader(text)
        with self.assertRaises(SavedTextError):
            call(reader)
        self.assertIsNone(reader.take_head(text))
        self.assertIs(reader.at_end(), True)

    def test_read(self):
        reader = SavedReader("head12;3;a;b0;0;")
        self.assertIs(reader.at_end(), False)
        self.assertIsNone(reader.take_head("head"))
        self.assertEqual((reader.take_number(), reader.take_text(), reader.take_number()), (12, "a;b", 0))
        self.assertIs(reader.at_end(), False)
        self.assertEqual(reader.take_text(), "")
        self.assertIs(reader.at_end(), True)

    def test_empty(self):
        reader = SavedReader("")
        self.assertIs(reader.at_end(), True)
        reader.take_head("")
        for call in (reader.take_number, reader.take_text):
            with self.assertRaises(SavedTextError):
                call()
        with self.assertRaises(SavedTextError):
            reader.take_head("a")

    def test_heads(self):
        for text, head in (("abc", "abd"), ("ab", "abc"), ("abc", "bc"), ("abc", "Abc")):
            self.refuses(text, lambda reader, head=head: reader.take_head(head))

    def test_numbers(self):
        self.assertEqual(SavedReader("999999999;").take_number(), 999999999)
        self.assertEqual(SavedReader("100000000;x").take_number(), 100000000)
        self.assertEqual(SavedReader("0;").take_number(), 0)
        for text in (
            "", ";", "1", "12", "1 ;", " 1;", "+1;", "-1;", "01;", "00;", "a;", "1a;", "1.0;", "1,", "1000000000;",
            "0000000001;", "9" * 5000 + ";", "1\n;", "0", "x1;",
        ):
            self.refuses(text, lambda reader: reader.take_number())
            self.refuses(text, lambda reader: reader.take_text())

    def test_texts(self):
        self.assertEqual(SavedReader("3;abcd").take_text(), "abc")
        for text in ("3;ab", "1;", "999999999;abc", "1000000000;a", "2;a"):
            self.refuses(text, lambda reader: reader.take_text())

    def test_behind_a_refusal(self):
        reader = SavedReader("2;a;")
        reader.take_head("2")
        with self.assertRaises(SavedTextError):
            reader.take_number()
        reader.take_head(";a")
        with self.assertRaises(SavedTextError):
            reader.take_text()
        reader.take_head(";")
        self.assertTrue(reader.at_end())
