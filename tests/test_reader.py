"""Points 22 to 27: what sources are read as."""

import unittest

from firstway.errors import FlagsError, NotASet, PatternError
from firstway.meaning.patterns import look_total, weight
from firstway.notation.reader import read_pattern, read_set
from firstway.sets.named import DIGITS, EVERY, IN_LINE, WHITE, WORD
from firstway.sets.ranges import complement
from tests.helpers import few_calls, one

A, B, C = one("a"), one("b"), one("c")


def tree_of(source, flags=""):
    return read_pattern(source, flags)[0]


def codes_of(source, flags=""):
    tree = tree_of(source, flags)
    assert tree[0] == "set", tree
    return {code for low, high in tree[1] for code in range(low, high)}


def signs_of(source, flags=""):
    return "".join(chr(code) for code in sorted(codes_of(source, flags)))


class ExamplesTest(unittest.TestCase):

    def test_examples(self):
        wanted = ("choice", A, ("group", 0, ("repeat", C, 0, None, False)))
        self.assertEqual(read_pattern("a|(?<b>c*?)", ""), (wanted, ("b",)))
        with self.assertRaises(PatternError) as caught:
            read_pattern("[^--a]", "")
        error = caught.exception
        self.assertEqual((error.column, error.expected), (3, "something ahead of the operator"))


class FlagsTest(unittest.TestCase):

    def test_the_eight_texts(self):
        for flags in ("", "i", "m", "s", "im", "is", "ms", "ims"):
            self.assertEqual(read_pattern("1", flags), (one("1"), ()))

    def test_all_others_are_refused_first(self):
        for flags in ("mi", "ii", "x", "I", " ", "sim", "imsi", "si", "g"):
            for source in ("a", "(", "]"):
                with self.assertRaises(FlagsError):
                    read_pattern(source, flags)

    def test_line_flag(self):
        for source, plain, lines in (("^", "text_start", "line_start"), ("$", "text_end", "line_end")):
            self.assertEqual(tree_of(source), ("anchor", plain))
            self.assertEqual(tree_of(source, "is"), ("anchor", plain))
            self.assertEqual(tree_of(source, "m"), ("anchor", lines))
            self.assertEqual(tree_of(source, "ims"), ("anchor", lines))
        self.assertEqual(tree_of("\\A", "m"), ("anchor", "text_start"))

    def test_dot_flag(self):
        self.assertEqual(tree_of(".", "im"), ("set", IN_LINE))
        self.assertEqual(tree_of(".", "s"), ("set", EVERY))

    def test_case_flag_folds_single_codes(self):
        for source in ("a", "A", "\\x41", "\\x61"):
            self.assertEqual(signs_of(source, "i"), "Aa")
        self.assertEqual(signs_of("k", "ims"), "Kk")
        for source in ("\\[", "@", "\\x5b", "1", "\\n"):
            self.assertEqual(tree_of(source, "i"), tree_of(source))
        self.assertEqual(tree_of("\\d\\W", "i"), tree_of("\\d\\W"))


class TokensTest(unittest.TestCase):

    def test_characters(self):
        for sign in "aZ09 _-!\"#&',/:;<=>@`~\n\t":
            self.assertEqual(tree_of(sign), one(sign))

    def test_escapes(self):
        for source, wanted in (
            ("\\A", ("anchor", "text_start")), ("\\z", ("anchor", "text_end")),
            ("\\b", ("anchor", "word_boundary")), ("\\B", ("anchor", "no_word_boundary")),
            ("\\d", ("set", DIGITS)), ("\\s", ("set", WHITE)), ("\\w", ("set", WORD)),
            ("\\D", ("set", complement(DIGITS))), ("\\S", ("set", complement(WHITE))),
            ("\\W", ("set", complement(WORD))), ("\\n", one("\n")), ("\\t", one("\t")),
            ("\\x00", ("set", ((0, 1),))), ("\\x7f", ("set", ((127, 128),))),
            ("\\x7F", ("set", ((127, 128),))), ("\\x4A", one("J")), ("\\x4a", one("J")),
        ):
            self.assertEqual(tree_of(source), wanted)

    def test_escaped_signs(self):
        for code in range(32, 127):
            sign = chr(code)
            if not sign.isalnum() and code != 37:
                self.assertEqual(tree_of("\\" + sign), one(sign))

    def test_hexadecimal_digits_are_two(self):
        self.assertEqual(tree_of("\\x411"), ("sequence", one("A"), one("1")))

    def test_repeats(self):
        for written, counts in (
            ("*", (0, None)), ("+", (1, None)), ("?", (0, 1)), ("{3}", (3, 3)), ("{3,}", (3, None)),
            ("{2,5}", (2, 5)), ("{0}", (0, 0)), ("{0,0}", (0, 0)), ("{50}", (50, 50)),
            ("{0007}", (7, 7)), ("{00,050}", (0, 50)), ("{5,5}", (5, 5)), ("{1}", (1, 1)),
        ):
            self.assertEqual(tree_of("a" + written), ("repeat", A, *counts, True))
            self.assertEqual(tree_of("a" + written + "?"), ("repeat", A, *counts, False))

    def test_a_repeat_applies_to_one_element(self):
        self.assertEqual(tree_of("ab*"), ("sequence", A, ("repeat", B, 0, None, True)))
        self.assertEqual(tree_of("(?:ab)*"), ("repeat", ("sequence", A, B), 0, None, True))
        self.assertEqual(tree_of("(?:a*)*"), ("repeat", ("repeat", A, 0, None, True), 0, None, True))
        self.assertEqual(tree_of("(?:)?"), ("repeat", ("empty",), 0, 1, True))
        self.assertEqual(tree_of("^{2}"), ("repeat", ("anchor", "text_start"), 2, 2, True))
        self.assertEqual(tree_of("(?=a)?"), ("repeat", ("look", True, True, A), 0, 1, True))
        self.assertEqual(tree_of("(a)+"), ("repeat", ("group", 0, A), 1, None, True))


class TreesTest(unittest.TestCase):

    def test_empty_alternatives(self):
        empty = ("empty",)
        self.assertEqual(tree_of(""), empty)
        self.assertEqual(tree_of("|"), ("choice", empty, empty))
        self.assertEqual(tree_of("a|"), ("choice", A, empty))
        self.assertEqual(tree_of("(|a)"), ("group", 0, ("choice", empty, A)))
        self.assertEqual(tree_of("a(?:)"), ("sequence", A, empty))

    def test_nesting_to_the_right(self):
        self.assertEqual(tree_of("abc"), ("sequence", A, ("sequence", B, C)))
        self.assertEqual(tree_of("a|b|c"), ("choice", A, ("choice", B, C)))
        self.assertEqual(tree_of("ab|c"), ("choice", ("sequence", A, B), C))

    def test_brackets_without_group_leave_the_tree(self):
        self.assertEqual(tree_of("(?:(?:a))"), A)
        self.assertEqual(tree_of("(?:ab)c"), ("sequence", ("sequence", A, B), C))
        self.assertEqual(tree_of("a(?:bc)"), tree_of("abc"))
        self.assertEqual(tree_of("(?:a|b)|c"), ("choice", ("choice", A, B), C))

    def test_looks(self):
        for written, ahead, positive in (("(?=", 1, 1), ("(?!", 1, 0), ("(?<=", 0, 1), ("(?<!", 0, 0)):
            found = tree_of(written + "a)")
            self.assertEqual(found, ("look", bool(ahead), bool(positive), A))
            self.assertIs(found[1], bool(ahead))

    def test_groups_are_numbered_as_they_open(self):
        tree, names = read_pattern("((?<x>a)(b))(?=(c))(?<_y1>)", "")
        first = ("group", 0, ("sequence", ("group", 1, A), ("group", 2, B)))
        last = ("sequence", ("look", True, True, ("group", 3, C)), ("group", 4, ("empty",)))
        self.assertEqual(tree, ("sequence", first, last))
        self.assertEqual(names, (None, "x", None, None, "_y1"))

    def test_names(self):
        longest = "a" * 20
        for name in ("a", "_", "Z9_", longest, "_234567890123456789x"):
            self.assertEqual(read_pattern("(?<" + name + ">)", "")[1], (name,))
        self.assertEqual(read_pattern("(?<a>)(?<A>)(?<aa>)", "")[1], ("a", "A", "aa"))


class ClassesTest(unittest.TestCase):

    def test_items(self):
        for source, wanted in (
            ("[abc]", "abc"), ("[a-d]", "abcd"), ("[a-a]", "a"), ("[a-cx-z0]", "0abcxyz"),
            ("[\\n\\t\\x41]", "\t\nA"), ("[\\]\\-\\[\\^]", "-[]^"), ("[a^]", "^a"), ("[&]", "&"),
            ("[a&b]", "&ab"), ("[$.*+?(){}|]", "$()*+.?{|}"), ("[\n\t ]", "\t\n "), ("[\\&-\\(]", "&'("),
            ("[&-(]", "&'("), ("[a^-b]", "^_`ab"), ("[!-&]", "!\"#$" + "\x25&"), ("[\\x41-C]", "ABC"),
            ("[A-\\x43]", "ABC"), ("[\\d_]", "0123456789_"), ("[a[b[c]]d]", "abcd"), ("[]", ""),
        ):
            self.assertEqual(signs_of(source), wanted, source)

    def test_complements(self):
        self.assertEqual(tree_of("[^]"), ("set", EVERY))
        self.assertEqual(tree_of("[]"), ("set", ()))
        self.assertEqual(tree_of("[^\\n\\x0d]"), ("set", IN_LINE))
        self.assertEqual(tree_of("[^\\W]"), ("set", WORD))
        self.assertEqual(tree_of("[\\s\\S]"), ("set", EVERY))
        self.assertEqual(signs_of("[a-e&&[^b]]"), "acde")
        self.assertEqual(codes_of("[^^]"), set(range(128)) - {ord("^")})

    def test_operators(self):
        for source, wanted in (
            ("[a--b]", "a"), ("[a-e--bd]", "ace"), ("[a-e&&c-z]", "cde"), ("[a-z&&c-f--d]", "cef"),
            ("[a-z--c-z&&b-x]", "b"), ("[a-c--[b]]", "ac"), ("[\\w--\\d--_--A-Z--b-z]", "a"),
            ("[a-c&&[b-z--c]]", "b"), ("[a&&b]", ""), ("[a--[]]", "a"), ("[\\---a]", "-"),
            ("[&&&a]", None), ("[a&&&-(]", ""), ("[a&-(&&&]", "&"),
        ):
            if wanted is None:
                self.assertRaises(PatternError, read_pattern, source, "")
            else:
                self.assertEqual(signs_of(source), wanted, source)

    def test_the_complement_comes_last(self):
        self.assertEqual(codes_of("[^a-c--b]"), set(range(128)) - {97, 99})
        self.assertEqual(codes_of("[^a&&b]"), set(range(128)))

    def test_parts_are_folded(self):
        self.assertEqual(signs_of("[a-c]", "i"), "ABCabc")
        self.assertEqual(signs_of("[a-c--B]", "i"), "ACac")
        self.assertEqual(signs_of("[a-c&&A-B]", "i"), "ABab")
        self.assertEqual(codes_of("[^a]", "i"), set(range(128)) - {65, 97})
        self.assertEqual(codes_of("[[^a]]", "i"), set(range(128)) - {65, 97})
        self.assertEqual(signs_of("[@-B]", "i"), "@ABab")

    def test_four_classes_open(self):
        self.assertEqual(signs_of("[a[b[c[d]]]]"), "abcd")
        self.assertEqual(signs_of("[[[[a]][[b]]][c]]"), "abc")


class BoundsTest(unittest.TestCase):

    def test_weights_at_the_bound(self):
        for source in ("a" * 100, "(?:a{10}){10}", "a{50}b{50}", "a{49,}b{50}", "(?:ab){50}", "a|" * 99, "()" * 100):
            self.assertEqual(weight(tree_of(source)), 100, source)
        self.assertEqual(tree_of("(?:ab){0}" + "a" * 98)[1], ("repeat", ("sequence", A, B), 0, 0, True))

    def test_four_looks(self):
        self.assertEqual(look_total(tree_of("(?=(?!a))(?<=b)(?<!c)")), 4)
        self.assertEqual(look_total(tree_of("(?:(?=a)(?<=b)){0}(?=a)(?!b)")), 4)

    def test_eight_brackets(self):
        source = "(" * 8 + "a" + ")" * 8
        self.assertEqual(read_pattern(source, "")[1], (None,) * 8)
        self.assertEqual(tree_of("(?:(?=((?:(?<a>((?<!(a))))))))")[0], "look")

    def test_many_brackets_one_behind_another(self):
        self.assertEqual(read_pattern("(" * 8 + ")" * 8 + "(?:a)" * 99, "")[1], (None,) * 8)

    def test_long_sources(self):
        with few_calls():
            self.assertEqual(tree_of("[" + "ab-z" * 14999 + "]"), ("set", ((97, 123),)))
            self.assertEqual(tree_of("[a" + "&&a" * 19000 + "]"), A)
            self.assertEqual(tree_of("a{" + "0" * 59000 + "7}"), ("repeat", A, 7, 7, True))
            self.assertEqual(tree_of("(?:" * 7 + "[" + "ab" * 29000 + "]" + ")" * 7), ("set", ((97, 99),)))


class ReadSetTest(unittest.TestCase):

    def test_sets(self):
        self.assertEqual(read_set("[a-c]"), ((97, 100),))
        self.assertEqual(read_set("a"), ((97, 98),))
        self.assertEqual(read_set("(?:(?:\\d))"), DIGITS)
        self.assertEqual(read_set("."), IN_LINE)
        self.assertEqual(read_set("[]"), ())

    def test_everything_else(self):
        for source in ("", "ab", "a|b", "(a)", "a*", "^", "(?=a)", "a{1}", "\\b"):
            with self.assertRaises(NotASet):
                read_set(source)

    def test_pattern_errors_come_first(self):
        for source, column, expected in (
            ("[a", 3, "the end of the class"), ("ab)", 3, "an open bracket"), ("a**", 3, "something to repeat"),
        ):
            with self.assertRaises(PatternError) as caught:
                read_set(source)
            self.assertEqual((caught.exception.column, caught.exception.expected), (column, expected))
