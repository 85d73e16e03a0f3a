"""Points 58 and 59 and the interface under threads/matching.py."""

import unittest

from firstway.meaning.plain import plain_all, plain_match
from firstway.notation.reader import read_pattern
from firstway.threads.cores import fresh, prepare
from firstway.threads.matching import match_of, matches_of
from firstway.threads.passes import view_of
from firstway.threads.runs import first_way, search, searches
from tests.helpers import few_calls, small_trees


def matches_in(source, text):
    prepared = prepare(read_pattern(source, "")[0])
    view = view_of(prepared, text)
    return matches_of(prepared, view, searches(prepared, view))


class MatchOfTest(unittest.TestCase):

    def test_groups_of_the_registers(self):
        prepared = prepare(read_pattern("(a)|(b)", "")[0])
        candidate = (1, 2, ((1, None), ((1, 2), None), ()))
        self.assertEqual(match_of(prepared, view_of(prepared, "cab"), candidate), (1, 2, ((1, 2), None)))

    def test_groups_in_looks(self):
        self.assertEqual(matches_in("a(?=(b)(c)?)", "abac"), [(0, 1, ((1, 2), None))])
        self.assertEqual(matches_in("(?<=(a)(b*))c", "abbc"), [(3, 4, ((0, 1), (1, 3)))])

    def test_groups_in_looks_within_looks(self):
        self.assertEqual(matches_in("a(?=(b(?=(c))))", "abc"), [(0, 1, ((1, 2), (2, 3)))])
        found = matches_in("a(?=b(?<=((?<=(a))b))(?=(c)))", "abc")
        self.assertEqual(found, [(0, 1, ((1, 2), (0, 1), (2, 3)))])

    def test_negative_looks_hold_nothing(self):
        self.assertEqual(matches_in("a(?!(b))", "abac"), [(2, 3, (None,))])
        self.assertEqual(matches_in("a(?!(?!(b)))", "abac"), [(0, 1, (None,))])

    def test_looks_that_are_repeated(self):
        self.assertEqual(matches_in("(?:a(?=(.)))*", "aab"), [(0, 2, ((2, 3),)), (2, 2, (None,)), (3, 3, (None,))])
        self.assertEqual(matches_in("(?:(?=(b))b|a)+", "ba"), [(0, 2, (None,))])

    def test_marks_of_the_candidate_alone_count(self):
        prepared = prepare(read_pattern("(?:(?=(a)))?a", "")[0])
        view = view_of(prepared, "a")
        self.assertEqual(match_of(prepared, view, (0, 1, ((None,), (None,), (None,)))), (0, 1, (None,)))
        self.assertEqual(match_of(prepared, view, (0, 1, ((None,), (None,), (0,)))), (0, 1, ((0, 1),)))


class MatchesOfTest(unittest.TestCase):

    def test_searches_without_candidate_give_none(self):
        prepared = prepare(read_pattern("a", "")[0])
        view = view_of(prepared, "ba")
        self.assertEqual(matches_of(prepared, view, [(0, None, 2)]), [])
        self.assertEqual(matches_of(prepared, view, []), [])
        self.assertEqual(matches_of(prepared, view, searches(prepared, view)), [(1, 2, ())])

    def test_all_matches_of_the_meaning(self):
        for tree, text, prepared, _ in small_trees(59, 1500):
            view = view_of(prepared, text)
            found = matches_of(prepared, view, searches(prepared, view))
            self.assertEqual(found, plain_all(tree, text), (tree, text))

    def test_matches_at_all_positions(self):
        for tree, text, prepared, _ in small_trees(58, 500):
            view = view_of(prepared, text)
            for position in range(len(text) + 1):
                way = first_way(prepared.core, fresh(prepared), view, position)
                found = way and match_of(prepared, view, (position, *way))
                self.assertEqual(found, plain_match(tree, text, position), (tree, text, position))

    def test_long_texts(self):
        with few_calls():
            text = "ab" * 50
            self.assertEqual(len(matches_in("a(?=(b(?=((?:ab)*$))))", text)), 50)
            prepared = prepare(read_pattern("(?<=(^(?:..)*))b(?=(.*))", "")[0])
            view = view_of(prepared, "b" + text[:99])
            _, candidate, _ = search(prepared, view, 1)
            self.assertEqual(match_of(prepared, view, candidate), (2, 3, ((0, 2), (3, 100))))
