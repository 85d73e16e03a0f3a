"""Points 31 to 34 and the interface under notation/printer.py."""

import random
import unittest

from firstway.meaning.plain import plain_match
from firstway.notation.printer import print_pattern, print_set, quote
from firstway.notation.reader import read_pattern, read_set
from firstway.sets.named import DIGITS, EVERY, IN_LINE, LINE_ENDS, NOTHING, WHITE, WORD
from firstway.sets.ranges import complement, make_set
from tests.helpers import chain, few_calls, left_chain, one, star

A, B = one("a"), one("b")
EMPTY = ("empty",)
PIECES = (
    "a", "b", "-", "\\-", " ", "_", "\n", "\\x00", "\\x25", "[a-c]", "[^a]", "[]", ".", "\\w", "\\D", "^", "$",
    "\\b", "\\B", "\\A", "\\z", "*", "+?", "??", "{2}", "{2,}?", "{0,3}", "(", "(?:", "(?=", "(?!", "(?<=",
    "(?<!", ")", ")", ")", "|", "[\\w--a]",
)


def some_sources(seed, total):
    chance = random.Random(seed)
    for number in range(total):
        pieces = [chance.choice(PIECES) for _ in range(chance.randint(0, 14))]
        if chance.random() < 0.3:
            pieces.insert(chance.randint(0, len(pieces)), f"(?<n{number}>")
            pieces.append(")")
        yield "".join(pieces), chance.choice(("", "i", "m", "s", "im", "is", "ms", "ims"))


def some_patterns(seed, total):
    for source, flags in some_sources(seed, total):
        try:
            yield read_pattern(source, flags)
        except ValueError:
            pass


class SetsTest(unittest.TestCase):

    def test_codes(self):
        wanted = {}
        for code in range(128):
            sign = chr(code)
            if sign.isalnum() or sign in "_ ":
                wanted[code] = sign
            elif 32 < code < 127 and code != 37:
                wanted[code] = "\\" + sign
            else:
                wanted[code] = "\\x" + hex(256 + code)[3:]
        self.assertEqual((wanted[9], wanted[10], wanted[37], wanted[127]), ("\\x09", "\\x0a", "\\x25", "\\x7f"))
        for code, text in wanted.items():
            self.assertEqual(print_set(((code, code + 1),)), text)

    def test_named_sets(self):
        for codes, text in (
            (DIGITS, "\\d"), (IN_LINE, "."), (WORD, "\\w"), (WHITE, "\\s"), (complement(DIGITS), "\\D"),
            (complement(WHITE), "\\S"), (complement(WORD), "\\W"), (NOTHING, "[]"), (EVERY, "[\\x00-\\x7f]"),
            (LINE_ENDS, "[\\x0a\\x0d]"),
        ):
            self.assertEqual(print_set(codes), text)

    def test_other_sets(self):
        for codes, text in (
            (((97, 99),), "[a-b]"), (((97, 100), (120, 121)), "[a-cx]"), (((32, 34),), "[ -\\!]"),
            (((45, 46), (93, 95)), "[\\-\\]-\\^]"), (((0, 9),), "[\\x00-\\x08]"), (((48, 57),), "[0-8]"),
        ):
            self.assertEqual(print_set(codes), text)

    def test_sets_are_read_again(self):
        chance = random.Random(33)
        for _ in range(500):
            pairs = [(chance.randint(0, 128), chance.randint(0, 128)) for _ in range(chance.randint(0, 5))]
            codes = make_set(pairs)
            self.assertEqual(read_set(print_set(codes)), codes)
        for code in range(128):
            self.assertEqual(read_set(print_set(((code, code + 1),))), ((code, code + 1),))


class PatternsTest(unittest.TestCase):

    def check(self, tree, text, names=()):
        self.assertEqual(print_pattern(tree, names), text)

    def test_example(self):
        self.check(("repeat", ("sequence", A, ("anchor", "line_end")), 0, None, False), "(?:a$)*?")

    def test_leaves(self):
        self.check(EMPTY, "")
        self.check(("set", DIGITS), "\\d")
        for name, text in (
            ("text_start", "\\A"), ("text_end", "\\z"), ("line_start", "^"), ("line_end", "$"),
            ("word_boundary", "\\b"), ("no_word_boundary", "\\B"),
        ):
            self.check(("anchor", name), text)

    def test_counts(self):
        for counts, text in (
            ((0, None), "*"), ((1, None), "+"), ((0, 1), "?"), ((2, None), "{2,}"), ((3, 3), "{3}"), ((0, 0), "{0}"),
            ((1, 1), "{1}"), ((0, 2), "{0,2}"), ((1, 2), "{1,2}"), ((10, 50), "{10,50}"), ((50, None), "{50,}"),
        ):
            self.check(("repeat", A, *counts, True), "a" + text)
            self.check(("repeat", A, *counts, False), "a" + text + "?")

    def test_groups_and_looks(self):
        tree = ("sequence", ("group", 0, A), ("group", 1, ("group", 2, EMPTY)))
        self.check(tree, "(a)(?<x_1>())", (None, "x_1", None))
        for ahead, positive, text in ((True, True, "(?="), (True, False, "(?!"), (False, True, "(?<="),
                                      (False, False, "(?<!")):
            self.check(("look", ahead, positive, ("choice", A, B)), text + "a|b)")

    def test_brackets_around_what_is_repeated(self):
        for inner, text in (
            (EMPTY, "(?:)*"), (("sequence", A, B), "(?:ab)*"), (("choice", A, B), "(?:a|b)*"),
            (star(A), "(?:a*)*"), (A, "a*"), (("anchor", "line_start"), "^*"), (("group", 0, A), "(a)*"),
            (("look", True, True, A), "(?=a)*"),
        ):
            self.check(star(inner), text, (None,))

    def test_brackets_in_sequences(self):
        for inner, first, second in (
            (EMPTY, "(?:)a", "a(?:)"), (("sequence", A, B), "(?:ab)a", "aab"),
            (("choice", A, B), "(?:a|b)a", "a(?:a|b)"), (star(A), "a*a", "aa*"), (("group", 0, A), "(a)a", "a(a)"),
            (("look", True, True, A), "(?=a)a", "a(?=a)"), (("anchor", "text_end"), "\\za", "a\\z"),
        ):
            self.check(("sequence", inner, A), first, (None,))
            self.check(("sequence", A, inner), second, (None,))

    def test_brackets_in_choices(self):
        for inner, first, second in (
            (EMPTY, "|a", "a|"), (("sequence", A, B), "ab|a", "a|ab"), (("choice", A, B), "(?:a|b)|a", "a|a|b"),
            (star(A), "a*|a", "a|a*"),
        ):
            self.check(("choice", inner, A), first)
            self.check(("choice", A, inner), second)

    def test_no_brackets_in_groups_and_looks(self):
        for inner, text in ((EMPTY, ""), (("choice", A, B), "a|b"), (("sequence", A, B), "ab"), (star(A), "a*")):
            self.check(("group", 0, inner), "(" + text + ")", (None,))
            self.check(("look", True, False, inner), "(?!" + text + ")")

    def test_patterns_are_read_again(self):
        total = 0
        for tree, names in some_patterns(32, 6000):
            self.assertEqual(read_pattern(print_pattern(tree, names), "m"), (tree, names))
            total += 1
        self.assertGreater(total, 1000)

    def test_great_trees(self):
        with few_calls():
            self.check(chain("sequence", [A] * 2000), "a" * 2000)
            self.check(chain("choice", [A] * 2000), "a" + "|a" * 1999)
            self.check(left_chain("sequence", [A] * 2000), "(?:" * 1998 + "aa" + ")a" * 1998)
            looks = ("look", True, True, A)
            self.check(chain("sequence", [looks] * 1000), "(?=a)" * 1000)
            deep = A
            for number in range(1000):
                deep = ("group", 999 - number, deep)
            self.check(deep, "(" * 1000 + "a" + ")" * 1000, (None,) * 1000)


class QuoteTest(unittest.TestCase):

    def test_example(self):
        self.assertEqual(quote("a.b\n"), "a\\.b\\x0a")

    def test_every_character(self):
        text = "".join(chr(code) for code in [9, 10, *range(32, 37), *range(38, 127)])
        wanted = ("sequence", ("set", ((9, 10),)), ("sequence", ("set", ((10, 11),)), chain("sequence", [
            one(sign) for sign in text[2:]])))
        self.assertEqual(read_pattern(quote(text), ""), (wanted, ()))
        self.assertEqual(plain_match(wanted, text, 0), (0, len(text), ()))

    def test_edges(self):
        self.assertEqual((quote(""), quote("a b_"), quote("-^")), ("", "a b_", "\\-\\^"))
        text = "*(a)|[b]" * 12 + "$\t\n\\"
        tree, names = read_pattern(quote(text), "")
        self.assertEqual((plain_match(tree, text, 0), names), ((0, 100, ()), ()))
