"""Points 16 to 19 and the interface under meaning/ways.py."""

import copy
import unittest

from firstway.meaning.ways import ways
from tests.helpers import chain, few_calls, left_chain, one, star
from tests.oracle import Maker, ways as slow_ways

A, B, C = one("a"), one("b"), one("c")
AB = ("set", ((97, 99),))
EMPTY = ("empty",)
NEVER = ("set", ())


def repeat(tree, least, most, greedy=True):
    return ("repeat", tree, least, most, greedy)


def ends(tree, text, position, backward=False, held=()):
    return [end for end, _ in ways(tree, text, position, held=held, backward=backward)]


class ExamplesTest(unittest.TestCase):

    def test_examples(self):
        self.assertEqual(ways(repeat(A, 0, None), "aab", 0, held=()), [(2, ()), (1, ()), (0, ())])
        tree = ("sequence", ("group", 0, A), B)
        self.assertEqual(ways(tree, "ab", 2, held=(None,), backward=True), [(0, ((0, 1),))])


class EachKindTest(unittest.TestCase):

    def test_empty(self):
        for backward in (False, True):
            for position in (0, 1, 2):
                found = ways(EMPTY, "ab", position, held=((1, 2), None), backward=backward)
                self.assertEqual(found, [(position, ((1, 2), None))])
            self.assertEqual(ends(EMPTY, "", 0, backward), [0])

    def test_set(self):
        self.assertEqual([ends(A, "ab", i) for i in (0, 1, 2)], [[1], [], []])
        self.assertEqual([ends(A, "ab", i, True) for i in (0, 1, 2)], [[], [0], []])
        self.assertEqual([ends(B, "ab", i, True) for i in (0, 1, 2)], [[], [], [1]])
        self.assertEqual(ways(A, "a", 0, held=((0, 9),)), [(1, ((0, 9),))])
        self.assertEqual((ends(A, "", 0), ends(A, "", 0, True), ends(NEVER, "a", 0)), ([], [], []))

    def test_sequence(self):
        tree = ("sequence", A, B)
        self.assertEqual([ends(tree, "abab", i) for i in range(5)], [[2], [], [4], [], []])
        self.assertEqual([ends(tree, "abab", i, True) for i in range(5)], [[], [], [0], [], [2]])
        self.assertEqual(ends(("sequence", A, NEVER), "aa", 0), [])

    def test_sequence_keeps_the_order_of_its_first_part(self):
        optional = repeat(A, 0, 1)
        lazy = repeat(A, 0, 1, False)
        self.assertEqual(ends(("sequence", optional, lazy), "aa", 0), [1, 2, 0])
        self.assertEqual(ends(("sequence", lazy, optional), "aa", 0), [1, 0, 2])
        self.assertEqual(ends(("sequence", optional, lazy), "aa", 2, True), [1, 2, 0])
        self.assertEqual(ends(("sequence", lazy, optional), "aa", 2, True), [1, 0, 2])

    def test_choice(self):
        tree = ("choice", ("sequence", A, B), A)
        self.assertEqual(ends(tree, "ab", 0), [2, 1])
        self.assertEqual(ends(("choice", A, ("sequence", A, B)), "ab", 0), [1, 2])
        self.assertEqual(ends(("choice", A, ("sequence", A, B)), "ab", 2, True), [0])
        self.assertEqual(ends(("choice", B, C), "ab", 0), [])

    def test_group(self):
        tree = ("group", 1, star(A))
        found = ways(tree, "aa", 0, held=((5, 6), (7, 8), None))
        self.assertEqual(found, [
            (2, ((5, 6), (0, 2), None)), (1, ((5, 6), (0, 1), None)), (0, ((5, 6), (0, 0), None)),
        ])
        found = ways(tree, "aa", 2, held=(None, None, None), backward=True)
        self.assertEqual([groups[1] for _, groups in found], [(0, 2), (1, 2), (2, 2)])

    def test_anchor(self):
        text = "a b"
        for name, wanted in (
            ("text_start", [0]), ("text_end", [3]), ("word_boundary", [0, 1, 2, 3]),
            ("no_word_boundary", []), ("line_start", [0]), ("line_end", [3]),
        ):
            for backward in (False, True):
                tree = ("anchor", name)
                found = [i for i in range(4) if ends(tree, text, i, backward) == [i]]
                self.assertEqual(found, wanted, name)
                self.assertTrue(all(len(ends(tree, text, i, backward)) < 2 for i in range(4)))
        starts = [i for i in range(4) if ends(("anchor", "line_start"), "a\n\n", i)]
        self.assertEqual(starts, [0, 2, 3])
        self.assertEqual(ways(("anchor", "text_start"), "", 0, held=((1, 1),)), [(0, ((1, 1),))])


class RepeatTest(unittest.TestCase):

    def test_counts(self):
        text = "aaaa"
        for least, most, wanted in (
            (0, 0, [0]), (0, 1, [1, 0]), (1, 1, [1]), (2, 3, [3, 2]), (1, None, [4, 3, 2, 1]),
            (3, None, [4, 3]), (5, None, []), (5, 9, []), (0, 9, [4, 3, 2, 1, 0]),
        ):
            self.assertEqual(ends(repeat(A, least, most), text, 0), wanted)
            self.assertEqual(ends(repeat(A, least, most, False), text, 0), wanted[::-1])
            back = [4 - end for end in wanted]
            self.assertEqual(ends(repeat(A, least, most), text, 4, True), back)
            self.assertEqual(ends(repeat(A, least, most, False), text, 4, True), back[::-1])

    def test_required_iterations_may_take_nothing(self):
        tree = repeat(("choice", EMPTY, A), 2, 2)
        self.assertEqual(ends(tree, "aaa", 0), [0, 1, 2])
        self.assertEqual(ends(repeat(EMPTY, 3, 3), "a", 1), [1])
        self.assertEqual(ends(repeat(EMPTY, 3, None), "a", 1), [1])

    def test_further_iterations_take_something(self):
        tree = repeat(("choice", EMPTY, A), 0, 2)
        self.assertEqual(ends(tree, "aaa", 0), [2, 1, 0])
        self.assertEqual(ends(repeat(tree, 0, None, False), "aaa", 0), [0, 2, 3, 1])

    def test_a_further_iteration_without_width_sets_no_group(self):
        tree = star(("group", 0, star(A)))
        self.assertEqual(ways(tree, "aa", 0, held=(None,))[0], (2, ((0, 2),)))
        self.assertEqual(ways(tree, "b", 0, held=(None,)), [(0, (None,))])
        self.assertEqual(ways(tree, "b", 0, held=((4, 5),)), [(0, ((4, 5),))])
        required = repeat(("group", 0, star(A)), 1, 1)
        self.assertEqual(ways(required, "b", 0, held=((4, 5),)), [(0, ((0, 0),))])

    def test_an_iteration_clears_the_groups_of_the_one_before(self):
        tree = star(("choice", ("group", 0, A), ("group", 1, B)))
        found = ways(tree, "ab", 0, held=((8, 9), (8, 9)))
        self.assertEqual(found, [
            (2, (None, (1, 2))), (1, ((0, 1), None)), (0, ((8, 9), (8, 9))),
        ])
        found = ways(tree, "ab", 2, held=(None, None), backward=True)
        self.assertEqual(found, [(0, ((0, 1), None)), (1, (None, (1, 2))), (2, (None, None))])

    def test_groups_of_lookarounds_are_cleared_too(self):
        inner = ("sequence", ("choice", ("look", True, True, ("group", 0, B)), EMPTY), AB)
        self.assertEqual(ways(repeat(inner, 2, 2), "ba", 0, held=(None,)), [(2, (None,))])

    def test_a_repeat_of_nothing_keeps_the_groups(self):
        tree = repeat(("group", 0, A), 0, 0)
        self.assertEqual(ways(tree, "a", 0, held=((3, 4),)), [(0, ((3, 4),))])

    def test_nested_repeats(self):
        tree = star(("sequence", star(A), star(B)))
        self.assertEqual(ends(tree, "aba", 0), [3, 2, 1, 0])
        self.assertEqual(ends(repeat(repeat(A, 2, 3), 1, 2), "aaaaaaa", 0), [6, 5, 3, 4, 2])


class LookTest(unittest.TestCase):

    def test_ahead_and_behind(self):
        for backward in (False, True):
            for tree, wanted in (
                (("look", True, True, B), [1]), (("look", True, False, B), [0, 2]),
                (("look", False, True, B), [2]), (("look", False, False, B), [0, 1]),
                (("look", True, True, ("sequence", A, B)), [0]),
                (("look", False, True, ("sequence", A, B)), [2]),
            ):
                found = [i for i in range(3) if ends(tree, "ab", i, backward)]
                self.assertEqual(found, wanted, tree)
                self.assertTrue(all(ends(tree, "ab", i, backward) == [i] for i in wanted))

    def test_positive_keeps_the_groups_of_its_first_way(self):
        tree = ("look", True, True, ("group", 0, ("choice", A, ("sequence", A, A))))
        self.assertEqual(ways(tree, "aa", 0, held=(None,)), [(0, ((0, 1),))])
        behind = ("look", False, True, ("sequence", ("group", 0, star(A)), ("group", 1, star(A))))
        self.assertEqual(ways(behind, "aa", 2, held=(None, None)), [(2, ((0, 0), (0, 2)))])

    def test_positive_clears_its_inner_groups(self):
        tree = ("look", True, True, ("choice", ("group", 0, B), A))
        self.assertEqual(ways(tree, "a", 0, held=((7, 8), (5, 5))), [(0, (None, (5, 5)))])

    def test_negative_keeps_what_the_groups_held(self):
        tree = ("look", True, False, ("group", 0, B))
        self.assertEqual(ways(tree, "a", 0, held=((7, 8),)), [(0, ((7, 8),))])
        self.assertEqual(ways(tree, "b", 0, held=((7, 8),)), [])

    def test_a_look_in_a_look(self):
        tree = ("look", True, True, ("sequence", A, ("look", False, True, ("group", 0, ("sequence", B, A)))))
        self.assertEqual(ways(tree, "ba", 1, held=(None,)), [(1, ((0, 2),))])
        self.assertEqual(ways(tree, "aa", 1, held=(None,)), [])

    def test_in_a_sequence_that_is_read_backwards(self):
        tree = ("sequence", ("look", True, True, ("group", 0, ("sequence", A, B))), A)
        self.assertEqual(ways(tree, "ab", 1, held=(None,), backward=True), [(0, ((0, 2),))])


class OneWayForEachEndTest(unittest.TestCase):

    def test_the_first_way_stays(self):
        tree = ("choice", ("group", 0, A), ("group", 1, A))
        self.assertEqual(ways(tree, "a", 0, held=(None, None)), [(1, ((0, 1), None))])
        self.assertEqual(ways(tree, "a", 1, held=(None, None), backward=True), [(0, ((0, 1), None))])
        joined = ("sequence", ("choice", A, ("sequence", A, A)), ("choice", ("sequence", A, A), A))
        self.assertEqual(ends(joined, "aaa", 0), [3, 2])
        doubled = ("sequence", ("group", 0, star(A)), ("group", 1, star(A)))
        found = ways(doubled, "aa", 0, held=(None, None))
        self.assertEqual(found, [
            (2, ((0, 2), (2, 2))), (1, ((0, 1), (1, 1))), (0, ((0, 0), (0, 0))),
        ])

    def test_random_trees(self):
        maker = Maker(16)
        for _ in range(400):
            tree = maker.tree(5)
            text, held = maker.text(5), maker.held()
            for position in range(len(text) + 1):
                for backward in (False, True):
                    found = ways(tree, text, position, held=held, backward=backward)
                    self.assertEqual(found, slow_ways(tree, text, position, held, backward))
                    self.assertEqual(len({end for end, _ in found}), len(found))


class CareTest(unittest.TestCase):

    def test_lists_are_new_and_arguments_stay(self):
        tree = star(("group", 0, A))
        kept = copy.deepcopy(tree)
        held = (None,)
        first = ways(tree, "aa", 0, held=held)
        wanted = list(first)
        first.clear()
        self.assertEqual(ways(tree, "aa", 0, held=held), wanted)
        self.assertEqual((tree, held), (kept, (None,)))

    def test_long_texts_and_deep_trees(self):
        text = "a" * 100
        everything = list(range(100, -1, -1))
        nested = A
        for _ in range(20):
            nested = star(nested)
        deep = A
        for number in range(1000):
            deep = ("group", number, deep)
        look = ("look", True, True, star(A))
        with few_calls():
            self.assertEqual(ends(chain("sequence", [star(A)] * 60), text, 0), everything)
            self.assertEqual(ends(left_chain("sequence", [star(A)] * 60), text, 100, True), everything[::-1])
            self.assertEqual(ends(nested, text, 0), everything)
            self.assertEqual(ends(repeat(star(A), 0, 50), text, 0), everything)
            self.assertEqual(ends(repeat(repeat(A, 0, 50), 0, 2), text, 0), everything)
            self.assertEqual(ends(star(chain("sequence", [look, A, look])), text, 0), everything)
            found = ways(deep, text, 0, held=(None,) * 1000)
            self.assertEqual(found, [(1, ((0, 1),) * 1000)])

    def test_many_groups_over_a_long_text(self):
        tree = chain("sequence", [("group", number, star(A)) for number in range(40)])
        found = ways(tree, "a" * 100, 0, held=(None,) * 40)
        self.assertEqual(found[0], (100, ((0, 100),) + ((100, 100),) * 39))
        self.assertEqual(len(found), 101)
