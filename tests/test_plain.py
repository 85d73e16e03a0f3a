"""Point 20 and the interface under meaning/plain.py."""

import unittest

from firstway.meaning.plain import plain_all, plain_match, plain_search
from tests.helpers import chain, few_calls, one, star
from tests.oracle import Maker, ways as slow_ways

A, B = one("a"), one("b")


def slow_match(tree, text, position, total):
    found = slow_ways(tree, text, position, (None,) * total, False)
    return (position, *found[0]) if found else None


def slow_search(tree, text, position, total):
    for start in range(position, len(text) + 1):
        match = slow_match(tree, text, start, total)
        if match:
            return match
    return None


def slow_all(tree, text, total):
    found = []
    position = 0
    while match := slow_search(tree, text, position, total):
        found.append(match)
        position = match[1] if match[1] > match[0] else match[1] + 1
    return found


class PlainTest(unittest.TestCase):

    def test_examples(self):
        tree = ("group", 0, ("repeat", A, 1, None, True))
        self.assertEqual(plain_all(tree, "aaba"), [(0, 2, ((0, 2),)), (3, 4, ((3, 4),))])
        look = ("look", False, True, ("group", 0, B))
        self.assertEqual(plain_all(look, "bb"), [(1, 1, ((0, 1),)), (2, 2, ((1, 2),))])

    def test_match_is_the_first_way(self):
        self.assertEqual(plain_match(("choice", A, ("sequence", A, B)), "ab", 0), (0, 1, ()))
        self.assertEqual(plain_match(("choice", ("sequence", A, B), A), "ab", 0), (0, 2, ()))
        self.assertEqual(plain_match(star(A, False), "aa", 1), (1, 1, ()))
        self.assertIsNone(plain_match(B, "ab", 0))
        self.assertEqual(plain_match(B, "ab", 1), (1, 2, ()))
        self.assertEqual(plain_match(("empty",), "", 0), (0, 0, ()))
        self.assertIsNone(plain_match(A, "a", 1))

    def test_search(self):
        self.assertEqual(plain_search(B, "abab", 0), (1, 2, ()))
        self.assertEqual(plain_search(B, "abab", 2), (3, 4, ()))
        self.assertIsNone(plain_search(B, "aba", 2))
        self.assertEqual(plain_search(star(B), "aba", 3), (3, 3, ()))
        self.assertEqual(plain_search(("choice", ("sequence", B, A), A), "aba", 0), (0, 1, ()))

    def test_search_behind_the_end(self):
        self.assertIsNone(plain_search(("empty",), "ab", 3))
        self.assertIsNone(plain_search(("empty",), "", 1))

    def test_all_goes_on_behind_matches(self):
        self.assertEqual(plain_all(star(A), "aab"), [(0, 2, ()), (2, 2, ()), (3, 3, ())])
        self.assertEqual(plain_all(("empty",), "ab"), [(0, 0, ()), (1, 1, ()), (2, 2, ())])
        self.assertEqual(plain_all(A, ""), [])
        self.assertEqual(plain_all(("sequence", A, A), "aaaaa"), [(0, 2, ()), (2, 4, ())])
        self.assertEqual(plain_all(("anchor", "text_end"), "ab"), [(2, 2, ())])

    def test_groups_hold_nothing_at_first(self):
        tree = ("choice", ("group", 0, A), ("group", 1, B))
        self.assertEqual(plain_all(tree, "ab"), [(0, 1, ((0, 1), None)), (1, 2, (None, (1, 2)))])

    def test_a_look_sees_what_is_before_the_position(self):
        tree = ("sequence", ("look", False, True, A), B)
        self.assertEqual(plain_match(tree, "ab", 1), (1, 2, ()))
        self.assertEqual(plain_search(tree, "bab", 2), (2, 3, ()))

    def test_random_trees(self):
        maker = Maker(20)
        for _ in range(300):
            tree, text = maker.tree(5), maker.text(6)
            total = maker.group_total
            self.assertEqual(plain_all(tree, text), slow_all(tree, text, total))
            for position in range(len(text) + 1):
                self.assertEqual(plain_match(tree, text, position), slow_match(tree, text, position, total))
                self.assertEqual(plain_search(tree, text, position), slow_search(tree, text, position, total))

    def test_long_texts(self):
        text = "a" * 100
        with few_calls():
            self.assertIsNone(plain_search(chain("sequence", [star(A)] * 40 + [B]), text, 0))
            self.assertEqual(plain_all(star(star(star(A))), text), [(0, 100, ()), (100, 100, ())])
            self.assertEqual(len(plain_all(star(A, False), text)), 101)

    def test_lists_are_new(self):
        plain_all(A, "aa").clear()
        self.assertEqual(len(plain_all(A, "aa")), 2)
