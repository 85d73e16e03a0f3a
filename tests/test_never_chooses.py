"""Point 62 and the interface under single/check.py."""

import unittest

from firstway.notation.reader import read_pattern
from firstway.pattern import Pattern
from firstway.single.check import never_chooses
from firstway.threads.cores import prepare
from firstway.threads.spots import Spot
from tests import machine_oracle
from tests.helpers import chain, few_calls, one, small_trees, star
from tests.oracle import in_set

SIGNS = [chr(code) for code in (9, 10, *range(32, 127)) if code != 37]
NEVER = (
    "", "a", "abc", "a*b", "(a)|b", "(?:a|b)*c", "a?b?c?", "[ab]*c+", "(?:ab|c)*", "a*?b", "(?:(a)*b)*",
    "a{3}", "a{2,}", "((a*)*)*", "(?:a|[])a", "a*$", "(?:^a|b)c", "(?=a|ab)b", "(?=a*a)[^a]*a", "a{0}", "a{2,3}",
    "[\\x00-\\x08]?[\\x01-\\x08]", "\\x25?\\x25", "\\x7f?\\x7f", "\\x0d*\\x0d", "(?:a*b)*", "(?:a|)b",
)
EVER = (
    "a*a", "a|a", "a|ab", "a?a", "[ab]|b", "(?:a|b)*b", "a*?a", "(?:a?b?)*a", ".*b", "a*(?:b|a)", "(?:ab?)*b",
    "\\n?\\n", "\\t?\\t", "~?~", "[ -\\x25]?[$-&]", "(?:a|b|ca|c)", "a{0,2}a", "(?:a{0,2}){2}", "a{2}a?a",
)


class ByHandTest(unittest.TestCase):

    def test_example(self):
        self.assertEqual([never_chooses(Pattern("a*b").prepared), never_chooses(Pattern("a*a").prepared)], [True, False])

    def check(self, source, wanted, flags=""):
        self.assertIs(never_chooses(Pattern(source, flags=flags).prepared), wanted, source)

    def test_patterns_that_never_leave_a_choice(self):
        for source in NEVER:
            self.check(source, True)

    def test_patterns_that_leave_a_choice(self):
        for source in EVER:
            self.check(source, False)

    def test_moves_behind_the_first_end_do_not_count(self):
        self.check("(?:|a)a?", True)
        self.check("(?:a|)a?", False)
        self.check("(?:|a|a)", True)
        self.check("a(?:|a|a)", True)
        self.check("(?:a|a|)", False)

    def test_anchors(self):
        self.check("(?:\\ba|\\Ba)", True)
        self.check("(?:\\ba|\\ba)", False)
        self.check("(?:^a|\\Ba)", True)
        self.check("(?:^\\W|\\B\\W)", False)
        self.check("(?:\\za|a)", True)
        self.check("(?:$\\n|\\n)", False, "m")
        self.check("(?:$\\n|\\n)", True)
        self.check("(?:$a|a)", True, "m")
        self.check("(?:^a|(?!x)(?=y)a)", False)
        self.check("(?:a\\b|b)(?:\\ba|a)", False)

    def test_lookarounds(self):
        self.check("(?:(?=x)a|(?!x)a)", False)
        self.check("(?:(?=x)a|b)", True)
        self.check("(?:(?=x)a|(?=y)a)", False)
        # The two looks are two bits, whatever stands in them.
        self.check("(?:(?=a)a|(?!a)a)", False)
        self.check("(?:(?=a|ab)(?<!b*b))*c", True)

    def test_one_look_that_is_written_out_twice(self):
        self.check("(?:(?=x)a|b){2}", True)
        self.check("(?:(?=x)a?){2}", False)

    def test_what_cannot_be_reached_counts(self):
        self.check("[](?:a|a)", False)
        self.check("\\z[](?:b(?:a|a))", False)

    def test_folded(self):
        self.check("a|A", True)
        self.check("a|A", False, "i")

    def test_the_prepared_pattern_stays(self):
        prepared = Pattern("(?=a)(?:a|b)*").prepared
        tree = prepared.core.tree
        self.assertIs(never_chooses(prepared), True)
        self.assertIs(never_chooses(prepared), True)
        self.assertEqual(prepared.core.tree, tree)


def leaves_choice(prepared, signs):
    """Point 62 word by word; before the position only codes that differ for anchors are tried."""
    rows = [()]
    for _ in prepared.looks:
        rows = [(*row, bit) for row in rows for bit in (False, True)]
    core = prepared.core
    for number in [None, *range(len(core.sets))]:
        for before in (None, 10, 95, 32):
            for sign in signs:
                for row in rows:
                    found = machine_oracle.numbers_left(core, number, Spot(3, before, ord(sign), row))
                    found = found[:found.index(None)] if None in found else found
                    if len([taken for taken in found if in_set(core.sets[taken], sign)]) > 1:
                        return True
    return False


class WordByWordTest(unittest.TestCase):

    def test_small_trees(self):
        told = []
        for tree, _, prepared, _ in small_trees(62, 260, heaviest=8):
            told.append(never_chooses(prepared))
            self.assertIs(told[-1], not leaves_choice(prepared, "\n abcz_-"), tree)
        self.assertTrue(20 < told.count(False) < len(told) - 20)

    def test_lists_by_hand(self):
        for sources, wanted in ((NEVER, True), (EVER, False)):
            for source in sources:
                prepared = prepare(read_pattern(source, "")[0])
                if len(prepared.core.sets) < 5:
                    self.assertIs(not leaves_choice(prepared, SIGNS), never_chooses(prepared), source)


class GreatTest(unittest.TestCase):

    def test_great_patterns(self):
        signs = [sign for sign in SIGNS if sign.isalnum()]
        with few_calls():
            self.assertIs(never_chooses(prepare(star(chain("choice", [one(sign) for sign in signs])))), True)
            self.assertIs(never_chooses(prepare(star(chain("choice", [one(sign) for sign in signs + ["z"]])))), False)
            source = "(?:" + "|".join(signs) + "|\\b-|\\B-|^:|$;|(?=a)\\[|(?!a)\\]|(?<=b)\\(|(?<!c)\\))*"
            self.assertIs(never_chooses(Pattern(source).prepared), True)
            self.assertIs(never_chooses(Pattern("(?:a?){50}").prepared), False)
            self.assertIs(never_chooses(Pattern("((((((((a*)*)*)*)*)*)*)*)*").prepared), True)
