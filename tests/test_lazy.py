"""Points 65, 72, 73 and 76 and the interface under lazy/search.py."""

import random
import unittest

from firstway.errors import CountError, PositionError
from firstway.lazy.search import LazySearch
from firstway.meaning.plain import plain_search
from firstway.pattern import Pattern
from firstway.threads.passes import view_of
from firstway.threads.runs import search
from tests import machine_oracle
from tests.helpers import few_calls, small_patterns
from tests.oracle import in_set, is_word


class SlowLazy:
    """Points 66 to 73 word by word, with a list of items."""

    def __init__(self, pattern, bound):
        self.core = pattern.prepared.core
        self.bound = bound
        self.items = []
        self.steps = 0

    def sign(self, code):
        if code is None:
            return None
        sign = chr(code)
        return [in_set(codes, sign) for codes in self.core.sets] + [is_word(sign), sign in "\n\r"]

    def stop_from(self, view, position):
        state, stop = ((), False), None
        while True:
            spot = view.spot(position)
            asked = (state, (self.sign(spot.before), self.sign(spot.after), spot.bits))
            known = [outcome for question, outcome in self.items if question == asked]
            if not known:
                self.steps += 1
                known = [machine_oracle.next_state(self.core, spot, state)]
                if len(self.items) == self.bound:
                    self.items = []
                self.items.append((asked, known[0]))
            state, ends = known[0]
            if ends:
                stop = position
            position += 1
            if state[1] and not state[0] or position > len(view.text):
                return stop, position

    def forget(self, keep):
        gone = max(0, len(self.items) - keep)
        self.items = self.items[gone:]
        return gone


class LazySearchTest(unittest.TestCase):

    def test_example(self):
        lazy = LazySearch(Pattern("a*b|a"))
        found = [lazy.search("caac"), lazy.search("caac"), lazy.step_total(), lazy.item_total()]
        self.assertEqual(found, [(1, 2, ()), (1, 2, ()), 4, 4])

    def test_field(self):
        pattern = Pattern("a")
        lazy = LazySearch(pattern)
        self.assertIs(lazy.pattern, pattern)
        self.assertEqual((lazy.step_total(), lazy.item_total()), (0, 0))

    def test_bounds(self):
        for bound in (0, -3, 1001):
            with self.assertRaises(CountError):
                LazySearch(Pattern("a"), bound=bound)
        self.assertEqual(LazySearch(Pattern("a"), bound=1).search("ba"), (1, 2, ()))
        self.assertEqual(LazySearch(Pattern("a"), bound=1000).search("ba"), (1, 2, ()))

    def test_search_by_hand(self):
        for source, text, position, wanted in (
            ("(a)(?=(b))", "aab", 0, (1, 2, ((1, 2), (2, 3)))), ("(a)|(b)", "cba", 0, (1, 2, (None, (1, 2)))),
            ("a", "ab", 1, None), ("", "ab", 2, (2, 2, ())), ("a*", "", 0, (0, 0, ())), ("a", "", 0, None),
            ("(?:(a)|b)*", "abc", 0, (0, 2, (None,))), ("a*?", "aa", 1, (1, 1, ())), ("^a", "aa", 1, None),
            ("abc|b", "abab", 0, (1, 2, ())), ("bcd|abcc|c", "abcd", 0, (1, 4, ())),
        ):
            self.assertEqual(LazySearch(Pattern(source)).search(text, position), wanted, (source, text))
        self.assertEqual(LazySearch(Pattern("a")).search("aba", position=1), (2, 3, ()))

    def test_positions(self):
        lazy = LazySearch(Pattern("a"))
        for text, position in (("ab", -1), ("ab", 3), ("", 1)):
            with self.assertRaises(PositionError):
                lazy.search(text, position)
        self.assertEqual((lazy.step_total(), lazy.item_total()), (0, 0))

    def test_stop_and_reach(self):
        for source, text, position, wanted in (
            ("a", "bba", 0, (3, 4)), ("a", "bb", 0, (None, 3)), ("a*?", "aa", 0, (0, 1)), ("a|ab", "ab", 0, (1, 2)),
            ("ab|a", "acc", 0, (1, 2)), ("a.*b|a", "accc", 0, (1, 5)), ("", "", 0, (0, 1)), ("a", "aa", 2, (None, 3)),
        ):
            pattern = Pattern(source)
            found = LazySearch(pattern).stop_from(view_of(pattern.prepared, text), position)
            self.assertEqual(found, wanted, (source, text))

    def test_counts_in_one_search(self):
        lazy = LazySearch(Pattern("a"))
        lazy.search("bbbb")
        # The first spot, one between two equal characters, and the one at the end.
        self.assertEqual((lazy.step_total(), lazy.item_total()), (3, 3))
        lazy.search("cccccc")
        self.assertEqual((lazy.step_total(), lazy.item_total()), (3, 3))
        lazy.search("cc-c")
        self.assertEqual((lazy.step_total(), lazy.item_total()), (5, 5))

    def test_forgetting(self):
        lazy = LazySearch(Pattern("a"))
        lazy.search("bbbb")
        self.assertEqual(lazy.forget(2), 1)
        self.assertEqual((lazy.step_total(), lazy.item_total()), (3, 2))
        self.assertIsNone(lazy.search("bbbb"))
        self.assertEqual((lazy.step_total(), lazy.item_total()), (4, 3))
        self.assertEqual((lazy.forget(1000), lazy.forget(0), lazy.item_total(), lazy.step_total()), (0, 3, 0, 4))
        for keep in (-1, 1001):
            with self.assertRaises(CountError):
                lazy.forget(keep)

    def test_a_bound_of_one(self):
        lazy = LazySearch(Pattern("a"), bound=1)
        self.assertIsNone(lazy.search("bbbb"))
        self.assertEqual((lazy.step_total(), lazy.item_total()), (3, 1))
        self.assertIsNone(lazy.search("bbbb"))
        self.assertEqual((lazy.step_total(), lazy.item_total()), (6, 1))

    def test_a_full_cache(self):
        lazy = LazySearch(Pattern("a"), bound=3)
        lazy.search("bbb")
        self.assertEqual((lazy.step_total(), lazy.item_total()), (3, 3))
        lazy.search("-")
        self.assertEqual((lazy.step_total(), lazy.item_total()), (5, 2))


class OneMeaningTest(unittest.TestCase):

    def test_the_meaning(self):
        chance = random.Random(65)
        for pattern, text in small_patterns(65, 500):
            lazy = LazySearch(pattern, bound=chance.choice((1, 2, 3, 100)))
            for position in range(len(text) + 1):
                wanted = plain_search(pattern.tree, text, position)
                self.assertEqual(lazy.search(text, position), wanted, (pattern.printed, text, position))

    def test_where_the_machine_of_threads_stops(self):
        for pattern, text in small_patterns(72, 500):
            lazy = LazySearch(pattern)
            view = view_of(pattern.prepared, text)
            for position in range(len(text) + 1):
                _, candidate, reach = search(pattern.prepared, view, position)
                wanted = (candidate and candidate[1], reach)
                self.assertEqual(lazy.stop_from(view, position), wanted, (pattern.printed, text, position))

    def test_counts_in_several_texts(self):
        chance = random.Random(73)
        texts = [text for _, text in small_patterns(73, 60)]
        for pattern, _ in small_patterns(74, 150):
            bound = chance.choice((1, 2, 5, 9, 100))
            lazy = LazySearch(pattern, bound=bound)
            slow = SlowLazy(pattern, bound)
            for _ in range(8):
                text = chance.choice(texts)
                view = view_of(pattern.prepared, text)
                position = chance.randint(0, len(text))
                if chance.random() < 0.5:
                    wanted = slow.stop_from(view, position)
                    self.assertEqual(lazy.stop_from(view, position), wanted, pattern.printed)
                else:
                    slow.stop_from(view, position)
                    wanted = plain_search(pattern.tree, text, position)
                    self.assertEqual(lazy.search(text, position), wanted, pattern.printed)
                if chance.random() < 0.3:
                    keep = chance.randint(0, 6)
                    self.assertEqual(lazy.forget(keep), slow.forget(keep))
                self.assertEqual((lazy.step_total(), lazy.item_total()), (slow.steps, len(slow.items)))

    def test_great_patterns_in_long_texts(self):
        with few_calls():
            lazy = LazySearch(Pattern("(?:a?){48}(.?){50}b|(a)"))
            for text in ("a" * 100, "ab" * 50, "a" * 99 + "b"):
                wanted = Pattern("(?:a?){48}(.?){50}b|(a)").search(text)
                self.assertEqual([lazy.search(text), lazy.search(text)], [wanted, wanted])
