"""Points 74 to 76 and the interface under lazy/reverse.py."""

import unittest

from firstway.lazy.reverse import back_state, least_start, reaches
from firstway.notation.reader import read_pattern
from firstway.threads.cores import Core, prepare
from firstway.threads.spots import Spot, View
from tests.helpers import few_calls, small_trees
from tests.machine_oracle import reaches_exactly


def core_of(source):
    return prepare(read_pattern(source, "")[0]).core


class BackStateTest(unittest.TestCase):

    def test_at_the_stop(self):
        spot = Spot(3, 97, 98, ())
        core = core_of("ab*|c")
        self.assertEqual((back_state(core, spot, None), reaches(core, spot, None)), ((0, 1, 2), False))
        core = core_of("(?:ab)*")
        self.assertEqual((back_state(core, spot, None), reaches(core, spot, None)), ((1,), True))
        core = core_of("(?:a|b)$")
        self.assertEqual((back_state(core, spot, None), reaches(core, spot, None)), ((), False))
        core = core_of("")
        self.assertEqual((back_state(core, spot, None), reaches(core, spot, None)), ((), True))

    def test_before_the_stop(self):
        core = core_of("ab*|c")
        spot = Spot(2, None, 98, ())
        self.assertEqual((back_state(core, spot, (0, 1, 2)), reaches(core, spot, (0, 1, 2))), ((0, 1), False))
        spot = Spot(2, None, 97, ())
        self.assertEqual((back_state(core, spot, (0, 1)), reaches(core, spot, (0, 1))), ((), True))
        self.assertEqual((back_state(core, spot, (1, 2)), reaches(core, spot, (1, 2))), ((), False))
        self.assertEqual((back_state(core, spot, ()), reaches(core, spot, ())), ((), False))

    def test_no_end_counts_before_the_stop(self):
        core = core_of("a*")
        self.assertIs(reaches(core, Spot(0, None, 97, ()), ()), False)
        self.assertIs(reaches(core, Spot(0, None, 97, ()), None), True)

    def test_bits(self):
        core = Core(("sequence", ("bit", 0, True), ("set", 0, ((97, 98),))), False)
        self.assertIs(reaches(core, Spot(0, None, 97, (True,)), (0,)), True)
        self.assertIs(reaches(core, Spot(0, None, 97, (False,)), (0,)), False)

    def test_arguments_stay(self):
        following = (0, 1)
        back_state(core_of("ab"), Spot(0, None, 97, ()), following)
        self.assertEqual(following, (0, 1))

    def test_word_by_word(self):
        for tree, text, prepared, rows in small_trees(75, 250, length=5):
            core = prepared.core
            view = View(text, rows)
            for stop in range(len(text) + 1):
                following = None
                for position in range(stop, -1, -1):
                    spot = view.spot(position)
                    whole = reaches_exactly(core, None, view, position, stop)
                    self.assertIs(reaches(core, spot, following), whole, (tree, text, position, stop))
                    following = back_state(core, spot, following)
                    numbers = range(len(core.sets))
                    wanted = tuple(n for n in numbers if reaches_exactly(core, n, view, position, stop))
                    self.assertEqual(following, wanted, (tree, text, position, stop))


class LeastStartTest(unittest.TestCase):

    def test_by_hand(self):
        for source, text, first, stop, wanted in (
            ("a*b", "caab", 0, 4, 1), ("a*b", "caab", 2, 4, 2), ("a*b", "caab", 0, 3, None), ("", "ab", 0, 1, 1),
            ("a*", "aaa", 0, 2, 0), ("a*", "aab", 0, 3, 3), ("a", "ab", 1, 2, None), ("a|bab", "cbab", 0, 4, 1),
            ("a", "", 0, 0, None), ("a*", "", 0, 0, 0), ("^a*", "aaa", 1, 3, None), ("\\b.*", "ab a", 1, 4, 2),
        ):
            found = least_start(core_of(source), View(text, []), first, stop)
            self.assertEqual(found, wanted, (source, text, first, stop))

    def test_word_by_word(self):
        for tree, text, prepared, rows in small_trees(76, 250, length=5):
            view = View(text, rows)
            for stop in range(len(text) + 1):
                starts = [i for i in range(stop + 1) if reaches_exactly(prepared.core, None, view, i, stop)]
                for first in range(stop + 1):
                    wanted = min([i for i in starts if i >= first], default=None)
                    self.assertEqual(least_start(prepared.core, view, first, stop), wanted, (tree, text))

    def test_great_patterns_in_long_texts(self):
        with few_calls():
            view = View("a" * 100, [])
            self.assertEqual(least_start(core_of("(?:a?){50}a{40}"), view, 0, 100), 10)
            self.assertEqual(least_start(core_of("((((((((a*)*)*)*)*)*)*)*)*"), view, 3, 100), 3)
