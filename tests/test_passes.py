"""Point 57 and the interface under threads/passes.py."""

import unittest

from firstway.notation.reader import read_pattern
from firstway.threads.cores import Core, prepare
from firstway.threads.passes import all_passes, pass_all, pass_step, view_of
from firstway.threads.spots import Spot, View
from tests import machine_oracle
from tests.helpers import few_calls, one, small_trees, star


def prepared_of(source):
    return prepare(read_pattern(source, "")[0])


class PassStepTest(unittest.TestCase):

    def test_a_lookahead(self):
        body = prepared_of("(?=ab)").looks[0].body
        self.assertEqual(pass_step(body, Spot(2, 98, None, ()), ()), ((1,), False))
        self.assertEqual(pass_step(body, Spot(1, 97, 98, ()), (1,)), ((0, 1), False))
        self.assertEqual(pass_step(body, Spot(0, None, 97, ()), (0, 1)), ((1,), True))

    def test_the_character_must_be_in_the_set(self):
        body = prepared_of("(?=ab)").looks[0].body
        self.assertEqual(pass_step(body, Spot(0, None, 98, ()), (0, 1)), ((0, 1), False))

    def test_the_number_must_be_in_the_state(self):
        body = prepared_of("(?=ab)").looks[0].body
        self.assertEqual(pass_step(body, Spot(0, None, 97, ()), (1,)), ((1,), False))

    def test_no_character_beyond_the_ends(self):
        ahead = prepared_of("(?=a)").looks[0].body
        behind = prepared_of("(?<=a)").looks[0].body
        self.assertEqual(pass_step(ahead, Spot(1, 97, None, ()), (0,)), ((0,), False))
        self.assertEqual(pass_step(behind, Spot(0, None, 97, ()), (0,)), ((0,), False))

    def test_a_lookbehind_takes_the_character_before(self):
        body = prepared_of("(?<=ab)").looks[0].body
        self.assertEqual(body.sets, (((98, 99),), ((97, 98),)))
        self.assertEqual(pass_step(body, Spot(2, 98, 97, ()), (0, 1)), ((1,), True))

    def test_all_kinds_of_core_trees(self):
        spot = Spot(0, None, 97, (True,))
        for core_tree, bit in (
            (("empty",), True), (("set", 0, ((97, 98),)), False), (("nonempty", ("empty",)), False),
            (("star", ("set", 0, ((97, 98),)), True), True), (("bit", 0, True), True),
            (("bit", 0, False), False), (("anchor", "text_start"), True), (("anchor", "text_end"), False),
            (("open", 0), True), (("close", 0), True), (("forget", (0,), (0,)), True),
            (("sequence", ("empty",), ("bit", 0, False)), False),
            (("choice", ("bit", 0, False), ("empty",)), True),
        ):
            self.assertIs(pass_step(Core(core_tree, False), spot, ())[1], bit, core_tree)

    def test_arguments_stay(self):
        state = (1,)
        pass_step(prepared_of("(?=ab)").looks[0].body, Spot(1, 97, 98, ()), state)
        self.assertEqual(state, (1,))


class PassAllTest(unittest.TestCase):

    def test_by_position(self):
        ahead = prepared_of("(?=ab)").looks[0].body
        found = pass_all(ahead, View("abb", []))
        self.assertEqual(found, ([(1,), (0, 1), (0, 1), (1,)], [True, False, False, False]))
        behind = prepared_of("(?<=ab)").looks[0].body
        found = pass_all(behind, View("abb", []))
        self.assertEqual(found, ([(1,), (0, 1), (1,), (1,)], [False, False, True, False]))

    def test_an_empty_text(self):
        self.assertEqual(pass_all(prepared_of("(?=a*)").looks[0].body, View("", [])), ([(0,)], [True]))
        self.assertEqual(pass_all(prepared_of("(?<=a)").looks[0].body, View("", [])), ([(0,)], [False]))


class AllPassesTest(unittest.TestCase):

    def test_by_look(self):
        states, bits = all_passes(prepared_of("(?=a(?!b))"), "aab")
        self.assertEqual(bits, [[False, False, True, False], [True, False, False, False]])
        self.assertEqual(states[0], [(0,), (0,), (0,), (0,)])
        self.assertEqual(states[1], [(0,), (0,), (), (0,)])

    def test_without_looks(self):
        self.assertEqual(all_passes(prepared_of("ab"), "ab"), ([], []))
        self.assertEqual(view_of(prepared_of("ab"), "ab").rows, [])

    def test_looks_that_are_repeated_no_times(self):
        self.assertEqual(all_passes(prepared_of("(?:(?=a)){0}"), "a")[1], [[True, False]])

    def test_the_view_has_all_bits(self):
        view = view_of(prepared_of("(?=a)(?<!a)"), "ba")
        self.assertEqual((view.text, view.rows), ("ba", [[False, True, False], [False, False, True]]))
        self.assertEqual(view.spot(1).bits, (True, False))

    def test_lists_are_new(self):
        prepared = prepared_of("(?=a)")
        states, bits = all_passes(prepared, "a")
        states[0].clear()
        bits.clear()
        self.assertEqual(all_passes(prepared, "a"), ([[(0,), (0,)]], [[True, False]]))

    def test_bits_are_those_of_the_meaning(self):
        for tree, text, prepared, rows in small_trees(571, 1200):
            self.assertEqual(all_passes(prepared, text)[1], rows, (tree, text))

    def test_states_word_by_word(self):
        for tree, text, prepared, rows in small_trees(572, 700):
            states, _ = all_passes(prepared, text)
            for number, look in enumerate(prepared.looks):
                view = View(text, rows[:number])
                wanted = machine_oracle.pass_all(look.body, view)
                self.assertEqual((states[number], rows[number]), wanted, (tree, text))
                self.assertEqual(pass_all(look.body, view), wanted)

    def test_great_looks_in_long_texts(self):
        deep = star(one("a"))
        for number in range(300):
            deep = ("group", 299 - number, deep)
        with few_calls():
            self.assertEqual(all_passes(prepare(("look", True, True, deep)), "ab")[1], [[True] * 3])
            _, bits = all_passes(prepared_of("(?=(?:a?){48}a{48}b)(?<!a{3})"), "a" * 98 + "b")
            self.assertEqual(bits[0], [False] * 2 + [True] * 49 + [False] * 49)
            self.assertEqual(bits[1], [False] * 3 + [True] * 96 + [False])
