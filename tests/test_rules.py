"""Points 35 to 41 and the interface under simpler/rules.py."""

import copy
import random
import unittest

from firstway.meaning.patterns import inner_groups, weight
from firstway.meaning.ways import ways
from firstway.simpler.rules import simplest, simplify, tree_size
from tests import rules_oracle
from tests.helpers import chain, few_calls, left_chain, one, star
from tests.oracle import Maker

A, B, C, D = one("a"), one("b"), one("c"), one("d")
EMPTY = ("empty",)
NEVER = ("set", ())
START, END = ("anchor", "text_start"), ("anchor", "text_end")


def group(tree, number=0):
    return ("group", number, tree)


def seq(*trees):
    return chain("sequence", trees)


def either(*trees):
    return chain("choice", trees)


def repeat(tree, least, most, greedy=True):
    return ("repeat", tree, least, most, greedy)


class RulesCase(unittest.TestCase):

    def check(self, *rows):
        for tree, wanted in rows:
            kept = copy.deepcopy(tree)
            self.assertEqual(simplify(tree), wanted, tree)
            self.assertEqual(rules_oracle.simplify(tree), wanted, tree)
            self.assertEqual(tree, kept)


class SizeTest(unittest.TestCase):

    def test_sizes(self):
        for tree, wanted in (
            (EMPTY, 1), (A, 1), (END, 1), (seq(A, B), 3), (either(A, B, C), 5), (star(A), 2), (group(A), 2),
            (("look", True, True, seq(A, star(B))), 5), (repeat(A, 7, 9), 2),
        ):
            self.assertEqual(tree_size(tree), wanted)
        with few_calls():
            self.assertEqual(tree_size(chain("sequence", [A] * 2000)), 3999)


class PlainKindsTest(RulesCase):

    def test_examples(self):
        self.check((either(A, B, EMPTY), either(("set", ((97, 99),)), EMPTY)))
        self.check((seq(seq(EMPTY, END), ("look", True, False, NEVER)), END))

    def test_what_stays(self):
        self.check((EMPTY, EMPTY), (A, A), (NEVER, NEVER), (START, START), (group(EMPTY), group(EMPTY)))

    def test_parts_come_first(self):
        self.check((group(seq(EMPTY, A)), group(A)), (repeat(seq(EMPTY, A), 2, 3), repeat(A, 2, 3)))
        self.check((("look", True, True, seq(A, EMPTY)), ("look", True, True, A)))


class SequenceTest(RulesCase):

    def test_rule_1_nests_to_the_right(self):
        self.check((seq(seq(A, B), C), seq(A, B, C)), (left_chain("sequence", [A, B, C, D]), seq(A, B, C, D)))
        self.check((seq(seq(A, B), seq(C, D)), seq(A, B, C, D)), (seq(seq(A, B), EMPTY), seq(A, B)))

    def test_rule_2_empty(self):
        self.check((seq(EMPTY, A), A), (seq(A, EMPTY), A), (seq(EMPTY, EMPTY), EMPTY), (seq(EMPTY, NEVER), NEVER))

    def test_rule_3_never(self):
        self.check(
            (seq(NEVER, A), NEVER), (seq(A, NEVER), NEVER), (seq(NEVER, NEVER), NEVER),
            (seq(NEVER, group(A)), seq(NEVER, group(A))), (seq(group(A), NEVER), seq(group(A), NEVER)),
            (seq(NEVER, A, group(B)), seq(NEVER, A, group(B))),
            (seq(seq(NEVER, A), group(B)), seq(NEVER, group(B))),
            (seq(group(A), B, NEVER), seq(group(A), NEVER)),
            (seq(seq(group(A), NEVER), B), seq(group(A), NEVER)),
        )


class ChoiceTest(RulesCase):

    def test_rule_1_nests_to_the_right(self):
        x, y, z = star(A), star(B), star(C)
        self.check((either(either(x, y), z), either(x, y, z)), (left_chain("choice", [x, y, z, x]), either(x, y, z)))

    def test_rule_2_never(self):
        self.check((either(NEVER, A), A), (either(A, NEVER), A), (either(NEVER, NEVER), NEVER))
        self.check((either(NEVER, group(A)), group(A)), (either(star(A), NEVER, star(B)), either(star(A), star(B))))

    def test_rule_3_sets(self):
        both = ("set", ((97, 99),))
        self.check((either(A, B), both), (either(A, B, star(C)), either(both, star(C))))
        self.check((either(A, A), A), (either(A, star(C), B), either(A, star(C), B)))
        self.check((either(A, B, C), ("set", ((97, 100),))), (either(either(A, C), D), ("set", ((97, 98), (99, 101)))))

    def test_rule_4_common_beginnings(self):
        self.check(
            (either(seq(A, B), seq(A, C)), seq(A, either(B, C))),
            (either(seq(START, B), seq(START, C)), seq(START, either(B, C))),
            (either(seq(A, B), seq(A, C), D), either(seq(A, either(B, C)), D)),
            (either(seq(A, star(B), C), seq(A, D)), seq(A, either(seq(star(B), C), D))),
            (either(seq(A, B), seq(B, C)), either(seq(A, B), seq(B, C))),
            (either(seq(star(A), B), seq(star(A), C)), either(seq(star(A), B), seq(star(A), C))),
            (either(seq(A, group(B)), seq(A, group(C, 1))), seq(A, either(group(B), group(C, 1)))),
            (either(seq(A, B), A), either(seq(A, B), A)),
            (either(seq(A, B), seq(A, B)), seq(A, either(B, B))),
        )

    def test_rule_5_equal_alternatives(self):
        x, y, z = star(A), star(B), star(C)
        self.check(
            (either(x, x), x), (either(x, y, x), either(x, y)), (either(x, y, x, z, x), either(x, y, z)),
            (either(y, x, x), either(y, x)), (either(group(A), group(A)), either(group(A), group(A))),
            (either(A, x, A), either(A, x)), (either(x, either(x, y)), either(x, y)), (either(EMPTY, EMPTY), EMPTY),
            (either(x, y, group(A)), either(x, y, group(A))),
        )

    def test_what_rules_give_is_not_joined_again(self):
        # The choice of c and d is made by rule 4 and not joined to one set.
        self.check((either(seq(A, B), seq(A, C), seq(A, D)), seq(A, either(B, either(C, D)))))
        self.check((either(seq(A, B), seq(A, NEVER, group(C))), seq(A, either(B, seq(NEVER, group(C))))))
        self.assertEqual(simplify(seq(A, either(B, either(C, D)))), seq(A, ("set", ((98, 101),))))


class RepeatTest(RulesCase):

    def test_rules_1_to_5(self):
        self.check(
            (repeat(EMPTY, 2, 5), EMPTY), (repeat(EMPTY, 0, None), EMPTY), (repeat(EMPTY, 0, 0, False), EMPTY),
            (repeat(NEVER, 0, 3), EMPTY), (repeat(NEVER, 1, 3), NEVER), (repeat(NEVER, 0, None), EMPTY),
            (repeat(A, 0, 0), EMPTY), (repeat(group(A), 0, 0), repeat(group(A), 0, 0)),
            (repeat(A, 1, 1), A), (repeat(A, 1, 1, False), A), (repeat(group(A), 1, 1), repeat(group(A), 1, 1)),
            (star(star(A)), star(A)), (star(star(A, False), False), star(A, False)),
            (star(star(A, False)), star(star(A, False))), (star(star(A), False), star(star(A), False)),
            (star(repeat(A, 1, None)), star(repeat(A, 1, None))), (repeat(star(A), 1, None), repeat(star(A), 1, None)),
            (star(star(group(A))), star(star(group(A)))), (star(repeat(A, 0, 5)), star(repeat(A, 0, 5))),
            (repeat(star(A), 0, 3), repeat(star(A), 0, 3)),
        )

    def test_rule_6(self):
        self.check((repeat(A, 2, 5, False), repeat(A, 2, 5, False)), (repeat(seq(A, EMPTY), 0, 1), repeat(A, 0, 1)))


class LookTest(RulesCase):

    def test_looks(self):
        for ahead in (True, False):
            self.check(
                (("look", ahead, True, EMPTY), EMPTY), (("look", ahead, False, EMPTY), NEVER),
                (("look", ahead, True, NEVER), NEVER), (("look", ahead, False, NEVER), EMPTY),
                (("look", ahead, True, A), ("look", ahead, True, A)),
                (("look", ahead, False, seq(A, EMPTY)), ("look", ahead, False, A)),
                (("look", ahead, True, group(EMPTY)), ("look", ahead, True, group(EMPTY))),
            )


class MeaningTest(unittest.TestCase):

    def same_ways(self, maker, tree, others):
        for _ in range(2):
            text, held = maker.text(6), maker.held()
            for position in range(len(text) + 1):
                for backward in (False, True):
                    wanted = ways(tree, text, position, held=held, backward=backward)
                    for other in others:
                        found = ways(other, text, position, held=held, backward=backward)
                        self.assertEqual(found, wanted, (tree, other))

    def test_random_trees(self):
        chance = random.Random(41)
        for seed in range(500):
            maker = Maker(seed)
            tree = maker.tree(chance.randint(2, 6))
            once, last = simplify(tree), simplest(tree)
            self.assertEqual(once, rules_oracle.simplify(tree))
            self.assertEqual(last, rules_oracle.simplest(tree))
            self.assertEqual(tree_size(tree), rules_oracle.size(tree))
            for other in (once, last):
                self.assertLessEqual(tree_size(other), tree_size(tree))
                self.assertLessEqual(weight(other), weight(tree))
                self.assertEqual(inner_groups(other), inner_groups(tree))
            self.same_ways(maker, tree, [once, last])

    def test_simplest_goes_on(self):
        tree = either(seq(A, B, C), seq(A, B, D))
        self.assertEqual(simplify(tree), seq(A, either(seq(B, C), seq(B, D))))
        self.assertEqual(simplest(tree), seq(A, B, ("set", ((99, 101),))))
        self.assertEqual(simplest(star(star(star(A)))), star(A))
        self.assertEqual(simplest(EMPTY), EMPTY)


class GreatTreesTest(unittest.TestCase):

    def test_chains(self):
        leaves = [one(sign) for sign in "ab" * 1000]
        stars = [star(one(sign)) for sign in "abcd" * 500]
        with few_calls():
            wanted = chain("sequence", leaves)
            for tree in (wanted, left_chain("sequence", leaves)):
                self.same(simplify(tree), wanted)
                self.same(simplest(tree), wanted)
            for tree in (chain("choice", stars), left_chain("choice", stars)):
                self.assertEqual(simplify(tree), chain("choice", stars[:4]))

    def same(self, tree, other):
        # Python's own comparison of such deep tuples would need too deep a recursion.
        while tree[0] == "sequence":
            self.assertEqual((tree[0], tree[1]), (other[0], other[1]))
            tree, other = tree[2], other[2]
        self.assertEqual(tree, other)

    def test_long_common_beginnings(self):
        leaves = [one("abc"[number % 3]) for number in range(900)]
        tree = ("choice", chain("sequence", [*leaves, A]), chain("sequence", [*leaves, B]))
        with few_calls():
            self.same(simplest(tree), chain("sequence", [*leaves, ("set", ((97, 99),))]))

    def test_deep_trees(self):
        look, group_tree, repeated = A, A, A
        for number in range(2000):
            look = ("look", True, True, look)
            group_tree = ("group", 1999 - number, group_tree)
            repeated = star(repeated, number % 2 == 0)
        with few_calls():
            self.assertEqual(tree_size(simplify(look)), 2001)
            self.assertEqual(tree_size(simplest(group_tree)), 2001)
            self.assertEqual(tree_size(simplest(repeated)), 2001)
            self.assertEqual(simplest(("sequence", EMPTY, A)), A)
