"""Points 66 to 69 and the interface under lazy/signs.py and lazy/automaton.py."""

import random
import unittest

from firstway.lazy.automaton import first_state, next_state
from firstway.lazy.signs import sign_of, telling
from firstway.notation.reader import read_pattern
from firstway.threads.cores import Core, fresh, prepare
from firstway.threads.runs import Run
from firstway.threads.spots import Spot, View
from tests import machine_oracle
from tests.helpers import few_calls, small_trees


def core_of(source):
    return prepare(read_pattern(source, "")[0]).core


class SignsTest(unittest.TestCase):

    def test_signs(self):
        core = core_of("[ab]b|\\d")
        self.assertEqual(sign_of(core, 97), (True, False, False, True, False))
        self.assertEqual(sign_of(core, 98), (True, True, False, True, False))
        self.assertEqual(sign_of(core, 48), (False, False, True, True, False))
        self.assertEqual(sign_of(core, 32), (False, False, False, False, False))
        self.assertEqual(sign_of(core, 10), (False, False, False, False, True))
        self.assertEqual(sign_of(core, 13), (False, False, False, False, True))
        self.assertIsNone(sign_of(core, None))

    def test_a_core_without_sets(self):
        core = Core(("empty",), False)
        self.assertEqual([sign_of(core, code) for code in (95, 10, 0)], [(True, False), (False, True), (False, False)])

    def test_each_set_that_is_written_out(self):
        self.assertEqual(sign_of(core_of("a{3}"), 97), (True, True, True, True, False))

    def test_telling(self):
        core = core_of("a")
        found = telling(core, Spot(7, 97, 10, (True, False)))
        self.assertEqual(found, ((True, True, False), (False, False, True), (True, False)))
        self.assertEqual(telling(core, Spot(0, None, None, ())), (None, None, ()))

    def test_the_position_is_not_told(self):
        core = core_of("[a-c]")
        self.assertEqual(telling(core, Spot(1, 97, 98, ())), telling(core, Spot(5, 99, 97, ())))
        self.assertNotEqual(telling(core, Spot(1, 97, 98, ())), telling(core, Spot(1, None, 98, ())))


class NextStateTest(unittest.TestCase):

    def test_first_state(self):
        self.assertEqual(first_state(), ((), False))

    def test_by_hand(self):
        core = core_of("ab|a*")
        spot = Spot(0, None, 97, ())
        self.assertEqual(next_state(core, spot, ((), False)), (((0, 2), True), True))
        self.assertEqual(next_state(core, spot, ((0, 2), True)), (((2,), True), True))
        self.assertEqual(next_state(core, spot, ((0,), True)), (((), True), False))
        self.assertEqual(next_state(core, Spot(3, 97, 98, ()), ((0,), True)), (((1,), True), False))
        self.assertEqual(next_state(core, Spot(3, 97, None, ()), ((), False)), (((), True), True))

    def test_a_state_with_a_candidate_begins_nothing(self):
        core = core_of("a")
        spot = Spot(0, None, 97, ())
        self.assertEqual(next_state(core, spot, ((), True)), (((), True), False))
        self.assertEqual(next_state(core, spot, ((), False)), (((0,), False), False))

    def test_nothing_is_visited_behind_an_end(self):
        core = core_of("a*?|b")
        self.assertEqual(next_state(core, Spot(0, None, 97, ()), ((), False)), (((), True), True))
        self.assertEqual(next_state(core, Spot(1, 97, 97, ()), ((0, 1), False)), (((), True), True))

    def test_the_order_of_entries(self):
        core = core_of("(?:ab|ba|a)*c")
        spot = Spot(2, 97, 97, ())
        self.assertEqual(next_state(core, spot, ((1, 2), False)), (((0, 4, 3), False), False))
        self.assertEqual(next_state(core, spot, ((2, 1), False)), (((3, 0, 4), False), False))

    def test_word_by_word(self):
        chance = random.Random(69)
        for tree, text, prepared, rows in small_trees(69, 600):
            core = prepared.core
            for position in range(len(text) + 1):
                entries = list(range(len(core.sets)))
                chance.shuffle(entries)
                state = (tuple(entries[:chance.randint(0, len(entries))]), chance.random() < 0.4)
                spot = View(text, rows).spot(position)
                found = next_state(core, spot, state)
                self.assertEqual(found, machine_oracle.next_state(core, spot, state), (tree, text, state))
                self.assertTrue(found[0][1] in (True, False) and found[1] in (True, False))

    def test_the_machine_of_threads_without_registers(self):
        for tree, text, prepared, rows in small_trees(68, 600):
            view = View(text, rows)
            run = Run(prepared.core, fresh(prepared), 0, renewing=True)
            state = first_state()
            while not run.over(len(text)):
                spot = view.spot(run.position)
                run.step(spot)
                state, ends = next_state(prepared.core, spot, state)
                self.assertEqual(state, (tuple(number for _, number, _ in run.threads), run.candidate is not None))
                self.assertIs(ends, run.candidate is not None and run.candidate[1] == spot.position)

    def test_spots_that_tell_the_same(self):
        for tree, text, prepared, rows in small_trees(67, 400):
            core = prepared.core
            view = View(text, rows)
            state = (tuple(range(len(core.sets))), False)
            steps = {}
            for position in range(len(text) + 1):
                spot = view.spot(position)
                step = next_state(core, spot, state)
                self.assertEqual(steps.setdefault(telling(core, spot), step), step, (tree, text))

    def test_codes_of_one_sign(self):
        for tree, _, prepared, _ in small_trees(66, 150):
            core = prepared.core
            bits = (True,) * len(prepared.looks)
            steps = {}
            for before in (None, 10, 97, 98, 32):
                for after in (None, *range(9, 127, 3), 97, 98, 99, 95):
                    spot = Spot(1, before, after, bits)
                    step = next_state(core, spot, ((), False))
                    self.assertEqual(steps.setdefault(telling(core, spot), step), step, tree)

    def test_great_patterns(self):
        with few_calls():
            core = core_of("(?:(?:a?){50}){2}")
            spot = Spot(3, 97, 97, ())
            self.assertEqual(next_state(core, spot, ((0,), True)), ((tuple(range(1, 100)), True), True))
            backwards = (tuple(range(98, -1, -1)), True)
            self.assertEqual(next_state(core, spot, backwards), (((99,), True), True))
