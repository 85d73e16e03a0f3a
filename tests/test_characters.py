"""Points 2 and 23 and the interface under sets/characters.py."""

import unittest

from firstway.sets.characters import TEXT_CODES, character, is_digit, is_letter, is_sign


class CharactersTest(unittest.TestCase):

    def test_text_codes(self):
        self.assertEqual(TEXT_CODES, ((9, 11), (32, 37), (38, 127)))

    def test_character(self):
        codes = [code for low, high in TEXT_CODES for code in range(low, high)]
        self.assertEqual([ord(character(code)) for code in codes], codes)
        self.assertEqual([character(code) for code in (9, 10, 32, 36, 38, 126)], ["\t", "\n", " ", "$", "&", "~"])

    def test_letters_digits_and_signs(self):
        for code in range(32, 127):
            sign = chr(code)
            kinds = (sign.isalpha(), sign.isdigit(), not sign.isalnum())
            self.assertEqual((is_letter(sign), is_digit(sign), is_sign(sign)), kinds)
        for sign in ("", "\n", "\t"):
            self.assertEqual((is_letter(sign), is_digit(sign), is_sign(sign)), (False, False, False))
