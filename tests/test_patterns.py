"""Points 14, 15 and 21 and the interface under meaning/patterns.py and meaning/anchors.py."""

import unittest

from firstway.meaning.anchors import anchor_holds
from firstway.meaning.patterns import inner_groups, look_total, weight
from tests.helpers import chain, few_calls, left_chain, one, star
from tests.oracle import ANCHORS, Maker, groups_in, holds

A = one("a")


def slow_weight(tree):
    kind = tree[0]
    if kind in ("sequence", "choice"):
        return slow_weight(tree[1]) + slow_weight(tree[2])
    if kind == "repeat":
        factor = tree[2] + 1 if tree[3] is None else max(1, tree[3])
        return slow_weight(tree[1]) * factor
    if kind in ("group", "look"):
        return slow_weight(tree[-1])
    return 1


class WeightTest(unittest.TestCase):

    def test_each_kind(self):
        for tree, wanted in (
            (("empty",), 1), (A, 1), (("set", ()), 1), (("anchor", "text_end"), 1),
            (("sequence", A, ("empty",)), 2), (("choice", A, ("sequence", A, A)), 3),
            (("group", 0, ("sequence", A, A)), 2), (("look", False, True, ("choice", A, A)), 2),
            (("repeat", ("sequence", A, A), 0, 0, True), 2),
            (("repeat", ("sequence", A, A), 0, 1, True), 2),
            (("repeat", ("sequence", A, A), 2, 5, False), 10),
            (("repeat", ("sequence", A, A), 0, None, True), 2),
            (("repeat", ("sequence", A, A), 3, None, False), 8),
            (("repeat", ("repeat", A, 3, 3, True), 4, 4, True), 12),
        ):
            self.assertEqual(weight(tree), wanted, tree)

    def test_random_trees(self):
        maker = Maker(21)
        for _ in range(300):
            tree = maker.tree(6)
            self.assertEqual(weight(tree), slow_weight(tree))

    def test_great_trees(self):
        with few_calls():
            self.assertEqual(weight(chain("sequence", [A] * 2000)), 2000)
            self.assertEqual(weight(left_chain("choice", [A] * 2000)), 2000)
            self.assertEqual(look_total(chain("sequence", [("look", True, True, A)] * 2000)), 2000)


class CountsTest(unittest.TestCase):

    def test_inner_groups(self):
        self.assertEqual(inner_groups(A), [])
        tree = ("group", 0, ("sequence", ("group", 1, A), star(("look", True, False, ("group", 2, A)))))
        self.assertEqual(inner_groups(tree), [0, 1, 2])
        self.assertEqual(inner_groups(tree[2]), [1, 2])
        self.assertEqual(inner_groups(tree[2][2]), [2])
        swapped = ("choice", ("group", 5, A), ("group", 3, A))
        self.assertEqual(inner_groups(swapped), [3, 5])

    def test_inner_groups_are_a_new_list(self):
        tree = ("group", 0, A)
        inner_groups(tree).append(7)
        self.assertEqual(inner_groups(tree), [0])

    def test_look_total(self):
        look = ("look", True, True, A)
        self.assertEqual(look_total(A), 0)
        self.assertEqual(look_total(look), 1)
        self.assertEqual(look_total(("sequence", look, ("repeat", look, 0, 0, True))), 2)
        self.assertEqual(look_total(("look", False, False, ("group", 0, ("choice", look, look)))), 3)

    def test_random_trees(self):
        maker = Maker(22)
        for _ in range(300):
            tree = maker.tree(6)
            self.assertEqual(inner_groups(tree), sorted(groups_in(tree)))
            self.assertEqual(inner_groups(tree), list(range(maker.group_total)))
            self.assertEqual(look_total(tree), maker.looks)


class AnchorsTest(unittest.TestCase):

    def test_ends_of_the_text(self):
        for name, wanted in (
            ("text_start", [True, True, False, False]), ("text_end", [True, False, True, False]),
            ("line_start", [True, True, False, False]), ("line_end", [True, False, True, False]),
            ("word_boundary", [False, True, True, False]),
            ("no_word_boundary", [True, False, False, True]),
        ):
            pairs = ((None, None), (None, 97), (97, None), (97, 98))
            found = [anchor_holds(name, before, after) for before, after in pairs]
            self.assertEqual(found, wanted, name)
            self.assertTrue(all(answer is True or answer is False for answer in found))

    def test_lines_end_at_both_codes(self):
        for code in (10, 13):
            self.assertIs(anchor_holds("line_start", code, 97), True)
            self.assertIs(anchor_holds("line_end", 97, code), True)
            self.assertIs(anchor_holds("line_start", 97, code), False)
            self.assertIs(anchor_holds("line_end", code, 97), False)
            self.assertIs(anchor_holds("text_start", code, 97), False)
            self.assertIs(anchor_holds("text_end", 97, code), False)

    def test_every_pair_of_codes(self):
        for name in ANCHORS:
            for before in range(128):
                for after in (0, 9, 10, 13, 32, 47, 48, 65, 90, 91, 95, 96, 97, 122, 123, 127):
                    text = chr(before) + chr(after)
                    self.assertIs(anchor_holds(name, before, after), holds(name, text, 1))
