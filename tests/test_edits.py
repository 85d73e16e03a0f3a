"""Points 85 and 86 and the interface under documents/edits.py."""

import random
import unittest

from firstway.documents.edits import edited, old_position, opposite
from firstway.errors import CountError, LengthError, PositionError
from tests.oracle import Maker


class EditsTest(unittest.TestCase):

    def test_edited(self):
        for text, edit, wanted in (
            ("abc", (1, 1, "xy"), "axyc"), ("abc", (0, 0, "x"), "xabc"), ("abc", (3, 0, "x"), "abcx"),
            ("abc", (0, 3, ""), ""), ("", (0, 0, ""), ""), ("abc", (1, 0, ""), "abc"), ("abc", (1, 2, "bc"), "abc"),
            ("", (0, 0, "ab"), "ab"),
        ):
            self.assertEqual(edited(text, edit), wanted)

    def test_opposite(self):
        for text, edit, wanted in (
            ("abc", (1, 1, "xy"), (1, 2, "b")), ("abc", (0, 0, "x"), (0, 1, "")), ("abc", (3, 0, "x"), (3, 1, "")),
            ("abc", (0, 3, ""), (0, 0, "abc")), ("", (0, 0, ""), (0, 0, "")), ("abc", (1, 2, ""), (1, 0, "bc")),
        ):
            self.assertEqual(opposite(text, edit), wanted)

    def test_opposites_lead_back(self):
        maker = Maker(86)
        for _ in range(300):
            text = maker.text(12)
            position = maker.chance.randint(0, len(text))
            edit = (position, maker.chance.randint(0, len(text) - position), maker.text(4))
            back = opposite(text, edit)
            self.assertEqual(edited(edited(text, edit), back), text)
            self.assertEqual(opposite(edited(text, edit), back), edit)

    def test_long_texts(self):
        self.assertEqual(edited("a" * 100, (100, 0, "")), "a" * 100)
        self.assertEqual(edited("a" * 100, (0, 1, "b")), "b" + "a" * 99)
        self.assertEqual(edited("", (0, 0, "a" * 100)), "a" * 100)
        self.assertEqual(opposite("a" * 100, (40, 60, "b" * 60)), (40, 60, "a" * 60))

    def test_errors(self):
        long = "a" * 100
        for function in (edited, opposite):
            for text, edit, error in (
                ("abc", (-1, 0, ""), PositionError), ("abc", (4, 0, ""), PositionError), ("", (1, 0, ""), PositionError),
                ("abc", (1, 3, ""), CountError), ("abc", (0, -1, ""), CountError), ("abc", (3, 1, ""), CountError),
                (long, (0, 0, "x"), LengthError), (long, (100, 0, "x"), LengthError), (long, (3, 1, "xy"), LengthError),
                ("", (0, 0, "x" * 101), LengthError), ("abc", (4, -1, "x" * 101), PositionError),
                ("abc", (-1, 0, "x" * 101), PositionError), ("abc", (1, 3, "x" * 101), CountError),
                ("abc", (1, -1, "x" * 101), CountError),
            ):
                with self.assertRaises(error):
                    function(text, edit)

    def test_old_position(self):
        for edit, position, wanted in (
            ((2, 3, "xy"), 0, 0), ((2, 3, "xy"), 1, 1), ((2, 3, "xy"), 2, None), ((2, 3, "xy"), 4, None),
            ((2, 3, "xy"), 5, 6), ((2, 0, ""), 1, 1), ((2, 0, ""), 2, None), ((2, 0, ""), 3, 3), ((0, 4, ""), 1, 5),
            ((0, 0, "abc"), 3, None), ((0, 0, "abc"), 4, 1), ((0, 0, "abc"), 0, None),
        ):
            self.assertEqual(old_position(edit, position), wanted, (edit, position))

    def test_same_characters_at_old_positions(self):
        chance = random.Random(85)
        text = "abcdefghij"
        for _ in range(200):
            position = chance.randint(0, 10)
            edit = (position, chance.randint(0, 10 - position), "XYZ"[:chance.randint(0, 3)])
            new = edited(text, edit)
            for q in range(len(new) + 1):
                old = old_position(edit, q)
                self.assertEqual(old is None, edit[0] <= q <= edit[0] + len(edit[2]))
                if old is not None:
                    self.assertEqual((new[max(q - 1, 0):q], new[q:q + 1]), (text[max(old - 1, 0):old], text[old:old + 1]))
