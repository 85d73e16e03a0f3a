"""Point 79 and the interface under feeds/possible.py."""

import unittest

from firstway.feeds.possible import fillable, possible, shortest_text
from firstway.meaning.patterns import look_total, weight
from firstway.notation.reader import read_pattern
from firstway.threads.cores import Core, prepare
from tests import feed_oracle, machine_oracle
from tests.helpers import chain, few_calls, left_chain, one
from tests.oracle import Maker

A = ("set", 0, ((97, 98),))
NEVER = ("set", 1, ())
EMPTY = ("empty",)


def core_of(source):
    return prepare(read_pattern(source, "")[0]).core


def parts_of(core_tree):
    found = [core_tree]
    for part in core_tree[1:]:
        if isinstance(part, tuple) and part and isinstance(part[0], str):
            found += parts_of(part)
    return found


class PossibleTest(unittest.TestCase):

    def told(self, core_tree):
        return possible(core_tree), fillable(core_tree)

    def test_what_takes_nothing(self):
        for core_tree in (
            EMPTY, ("open", 0), ("close", 0), ("forget", (0,), ()), ("bit", 0, True), ("bit", 0, False),
            ("anchor", "text_end"), ("anchor", "no_word_boundary"), ("star", EMPTY, True), ("star", NEVER, False),
        ):
            self.assertEqual(self.told(core_tree), (True, False), core_tree)
            self.assertIs(possible(core_tree), True)
            self.assertIs(fillable(core_tree), False)

    def test_sets(self):
        for codes, wanted in (
            (((97, 98),), True), ((), False), (((0, 9),), False), (((9, 10),), True), (((10, 11),), True),
            (((11, 32),), False), (((37, 38),), False), (((36, 38),), True), (((127, 128),), False),
            (((0, 128),), True), (((126, 127),), True), (((0, 9), (126, 128)), True),
        ):
            self.assertEqual(self.told(("set", 0, codes)), (wanted, wanted), codes)

    def test_sequences_and_choices(self):
        for kind, x, y, wanted in (
            ("sequence", A, EMPTY, (True, True)), ("sequence", EMPTY, A, (True, True)),
            ("sequence", EMPTY, EMPTY, (True, False)), ("sequence", A, NEVER, (False, False)),
            ("sequence", NEVER, A, (False, False)), ("choice", NEVER, A, (True, True)), ("choice", A, NEVER, (True, True)),
            ("choice", NEVER, EMPTY, (True, False)), ("choice", NEVER, NEVER, (False, False)),
        ):
            self.assertEqual(self.told((kind, x, y)), wanted)

    def test_nonempty_and_star(self):
        self.assertEqual(self.told(("nonempty", EMPTY)), (False, False))
        self.assertEqual(self.told(("nonempty", A)), (True, True))
        self.assertEqual(self.told(("nonempty", ("star", NEVER, True))), (False, False))
        self.assertEqual(self.told(("nonempty", ("choice", EMPTY, A))), (True, True))
        self.assertEqual(self.told(("star", A, True)), (True, True))
        self.assertEqual(self.told(("star", ("nonempty", EMPTY), True)), (True, False))

    def test_word_by_word(self):
        maker = Maker(79)
        for _ in range(300):
            for core_tree in parts_of(prepare(maker.tree(5)).core.tree):
                self.assertIs(possible(core_tree), feed_oracle.possible(core_tree), core_tree)
                self.assertIs(fillable(core_tree), feed_oracle.fillable(core_tree), core_tree)

    def test_great_trees(self):
        with few_calls():
            for nested in (chain, left_chain):
                tree = prepare(nested("sequence", [one("a")] * 128)).core.tree
                self.assertEqual(self.told(tree), (True, True))
            deep = EMPTY
            for _ in range(3000):
                deep = ("star", ("sequence", EMPTY, deep), True)
            self.assertEqual(self.told(deep), (True, False))


class ShortestTextTest(unittest.TestCase):

    def test_by_hand(self):
        for source, number, length in (
            ("abc", None, 3), ("abc", 0, 2), ("abc", 2, 0), ("a*b?", None, 0), ("a|bc|", None, 0), ("bc|a", None, 1),
            ("(a{2,}b){3}", None, 9), ("(a{2,}b){3}", 0, 8), ("[]", None, None), ("a[]", 0, None), ("[]a", 0, 1),
            ("a(?:[]|bb)", 0, 2), ("(?:a?b?)*", 0, 0), ("(?:[]){0,3}", None, 0), ("\\x00", None, None),
        ):
            found = shortest_text(core_of(source), number)
            self.assertEqual(None if found is None else len(found), length, source)

    def test_what_can_be_taken(self):
        self.assertEqual(shortest_text(core_of("abc"), 0), "bc")
        self.assertEqual(shortest_text(core_of("\\n\\t[\\x00-\\t]"), None), "\n\t\t")
        self.assertEqual(shortest_text(Core(("nonempty", ("choice", EMPTY, A)), False), None), "a")
        self.assertEqual(shortest_text(Core(("star", A, True), False), None), "")

    def taken_texts(self, core, number):
        """All texts of at most three of these characters that can be taken, the shorter ones first."""
        texts = [""]
        for text in texts:
            if self.can_take(core, number, text):
                yield text
            if len(text) < 3:
                texts += [text + sign for sign in "ab\n_ "]

    def can_take(self, core, number, text):
        view = machine_oracle.View(text, [])
        return machine_oracle.reaches_exactly(core, number, view, 0, len(text))

    def test_no_shorter_text_can_be_taken(self):
        maker = Maker(80, looks=0)
        count = 0
        while count < 80:
            tree = maker.tree(4)
            if weight(tree) > 30 or look_total(tree) or "anchor" in str(tree):
                continue
            count += 1
            core = prepare(tree).core
            for number in [None, *range(min(3, len(core.sets)))]:
                found = shortest_text(core, number)
                shortest = next(self.taken_texts(core, number), None)
                if shortest is None:
                    self.assertTrue(found is None or len(found) > 3, tree)
                else:
                    self.assertEqual(len(found), len(shortest), (tree, number))
                if found is not None:
                    self.assertTrue(self.can_take(core, number, found), (tree, number, found))

    def test_great_patterns(self):
        with few_calls():
            self.assertEqual(shortest_text(core_of("(?:ab){50}"), None), "ab" * 50)
            self.assertEqual(shortest_text(core_of("(?:ab){50}"), 1), "ab" * 49)
