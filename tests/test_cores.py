"""Points 46 to 49 and 51 and the interface under threads/cores.py."""

import copy
import unittest

from firstway.notation.reader import read_pattern
from firstway.threads.cores import Core, LookPart, Prepared, fresh, prepare
from tests import core_oracle
from tests.helpers import chain, few_calls, one
from tests.oracle import Maker

A, B, C = ((97, 98),), ((98, 99),), ((99, 100),)
EMPTY = ("empty",)


def core_of(source, flags=""):
    return prepare(read_pattern(source, flags)[0]).core.tree


def forgetful(core, groups=(), looks=()):
    return ("sequence", ("forget", groups, looks), core)


class CoreTreesTest(unittest.TestCase):

    def test_plain_kinds(self):
        self.assertEqual(core_of(""), EMPTY)
        self.assertEqual(core_of("\\b"), ("anchor", "word_boundary"))
        self.assertEqual(core_of("a"), ("set", 0, A))
        self.assertEqual(core_of("ab|a"), (
            "choice", ("sequence", ("set", 0, A), ("set", 1, B)), ("set", 2, A)))

    def test_group(self):
        self.assertEqual(core_of("(a)"), (
            "sequence", ("open", 0), ("sequence", ("set", 0, A), ("close", 0))))

    def test_stars(self):
        self.assertEqual(core_of("a*"), ("star", forgetful(("set", 0, A)), True))
        self.assertEqual(core_of("a*?"), ("star", forgetful(("set", 0, A)), False))
        self.assertEqual(core_of("a+"), (
            "sequence", forgetful(("set", 0, A)), ("star", forgetful(("set", 1, A)), True)))

    def test_counts(self):
        def further(number, rest):
            return ("sequence", ("nonempty", forgetful(("set", number, A))), rest)

        self.assertEqual(core_of("a{0}"), EMPTY)
        self.assertEqual(core_of("a{1}"), ("sequence", forgetful(("set", 0, A)), EMPTY))
        self.assertEqual(core_of("a?"), ("choice", further(0, EMPTY), EMPTY))
        self.assertEqual(core_of("a??"), ("choice", EMPTY, further(0, EMPTY)))
        tail = ("choice", further(1, ("choice", further(2, EMPTY), EMPTY)), EMPTY)
        self.assertEqual(core_of("a{1,3}"), ("sequence", forgetful(("set", 0, A)), tail))
        lazy = ("choice", EMPTY, further(0, ("choice", EMPTY, further(1, EMPTY))))
        self.assertEqual(core_of("a{0,2}?"), lazy)
        self.assertEqual(core_of("a{2,}"), (
            "sequence", forgetful(("set", 0, A)),
            ("sequence", forgetful(("set", 1, A)), ("star", forgetful(("set", 2, A)), True))))

    def test_iterations_forget_groups_and_looks(self):
        core = core_of("(?:(a)(?=(b))(?!c))*(?=d)")
        self.assertEqual(core[1][1][1], ("forget", (0, 1), (0, 1)))
        look = core_of("(?=a)*")
        inner = ("sequence", ("forget", (), ()), ("bit", 0, True))
        self.assertEqual(look, ("star", ("sequence", ("forget", (), (0,)), inner), True))

    def test_looks(self):
        self.assertEqual(core_of("(?!(a))"), ("bit", 0, False))
        self.assertEqual(core_of("(?<!a)"), ("bit", 0, False))
        self.assertEqual(core_of("(?=(a))"), ("sequence", ("forget", (0,), ()), ("bit", 0, True)))
        outer = core_of("(?<=((?!a)b(?=c)))")
        self.assertEqual(outer, ("sequence", ("forget", (0,), (0, 1)), ("bit", 2, True)))

    def test_sets_are_numbered_from_left_to_right(self):
        prepared = prepare(read_pattern("a{2}(?:b|c)*a{0}[ab]", "")[0])
        self.assertEqual(prepared.core.sets, (A, A, B, C, ((97, 99),)))


class LooksTest(unittest.TestCase):

    def test_order_direction_and_sign(self):
        prepared = prepare(read_pattern("(?=a(?<!(b)))(?:(?<=(?!c)){0})", "")[0])
        found = [(look.ahead, look.positive, look.groups, look.looks) for look in prepared.looks]
        self.assertEqual(found, [
            (False, False, (0,), ()), (True, True, (0,), (0,)), (True, False, (), ()), (False, True, (), (2,)),
        ])
        self.assertEqual([look.body.backward for look in prepared.looks], [True, False, False, True])
        self.assertEqual([look.body.sets for look in prepared.looks], [(B,), (A,), (C,), ()])
        self.assertEqual(prepared.group_total, 1)
        self.assertEqual(prepared.core.sets, ())

    def test_a_look_that_is_written_out_several_times_is_one(self):
        prepared = prepare(read_pattern("(?:(?=a)b){3}", "")[0])
        self.assertEqual(len(prepared.looks), 1)
        self.assertEqual(prepared.core.sets, (B, B, B))

    def test_backward_bodies(self):
        body = prepare(read_pattern("(?<=ab*(c))", "")[0]).looks[0].body
        group = ("sequence", ("open", 0), ("sequence", ("set", 0, C), ("close", 0)))
        tail = ("star", ("sequence", ("forget", (), ()), ("set", 1, B)), True)
        self.assertEqual(body.tree, ("sequence", ("sequence", group, tail), ("set", 2, A)))
        self.assertEqual(body.sets, (C, B, A))
        self.assertIs(body.backward, True)

    def test_a_lookahead_in_a_lookbehind_is_read_forwards(self):
        inner, outer = prepare(read_pattern("(?<=a(?=bc)a)", "")[0]).looks
        self.assertEqual(inner.body.tree, ("sequence", ("set", 0, B), ("set", 1, C)))
        self.assertEqual(outer.body.sets, (A, A))


class RestsTest(unittest.TestCase):

    def test_rests(self):
        a, b, c = ("set", 0, A), ("set", 1, B), ("set", 2, C)
        core = Core(("sequence", ("sequence", a, b), c), False)
        self.assertEqual((core.sets, core.rests), ((A, B, C), ((b, c), (c,), ())))
        core = Core(("sequence", ("choice", a, ("nonempty", b)), c), True)
        self.assertEqual(core.rests, ((c,), (c,), ()))
        self.assertIs(core.backward, True)
        self.assertEqual(core.tree, ("sequence", ("choice", a, ("nonempty", b)), c))

    def test_rest_within_stars(self):
        a, b = ("set", 0, A), ("set", 1, B)
        inner = ("star", ("sequence", a, EMPTY), True)
        outer = ("star", ("sequence", inner, b), False)
        core = Core(("sequence", outer, ("close", 0)), False)
        self.assertEqual(core.rests, ((EMPTY, inner, b, outer, ("close", 0)), (outer, ("close", 0))))

    def test_a_core_without_sets(self):
        core = Core(EMPTY, False)
        self.assertEqual((core.sets, core.rests, core.tree), ((), (), EMPTY))


class ClassesTest(unittest.TestCase):

    def test_fields(self):
        body = Core(EMPTY, True)
        look = LookPart(False, True, body, (1,), (0,))
        fields = (look.ahead, look.positive, look.body, look.groups, look.looks)
        self.assertEqual(fields, (False, True, body, (1,), (0,)))
        prepared = Prepared(body, (look,), 2)
        self.assertEqual((prepared.core, prepared.looks, prepared.group_total), (body, (look,), 2))

    def test_fresh(self):
        self.assertEqual(fresh(prepare(EMPTY)), ((), (), ()))
        prepared = prepare(read_pattern("(a)(?=(b)(?!c))", "")[0])
        self.assertEqual(fresh(prepared), ((None, None), (None, None), (None, None)))


class PrepareTest(unittest.TestCase):

    def test_random_trees(self):
        maker = Maker(46)
        for _ in range(400):
            tree = maker.tree(6)
            kept = copy.deepcopy(tree)
            prepared = prepare(tree)
            self.assertEqual(tree, kept)
            core, looks = core_oracle.prepared(tree)
            self.assertEqual(prepared.core.tree, core)
            self.assertIs(prepared.core.backward, False)
            self.assertEqual(prepared.group_total, maker.group_total)
            found = [(p.ahead, p.positive, p.body.tree, p.groups, p.looks) for p in prepared.looks]
            self.assertEqual(found, looks)
            self.assertIsInstance(prepared.looks, tuple)
            for look in prepared.looks:
                self.assertIs(look.body.backward, not look.ahead)
            for part in [prepared.core] + [look.body for look in prepared.looks]:
                self.assertEqual((part.sets, part.rests), core_oracle.sets_and_rests(part.tree))

    def test_great_trees(self):
        deep = one("a")
        for number in range(300):
            deep = ("group", 299 - number, deep)
        with few_calls():
            self.assertEqual(len(prepare(chain("sequence", [one("a")] * 128)).core.rests), 128)
            self.assertEqual(len(prepare(("repeat", one("a"), 50, None, True)).core.sets), 51)
            self.assertEqual(prepare(deep).group_total, 300)
