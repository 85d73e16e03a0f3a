"""Points 50 to 53 and the interface under threads/spots.py and threads/moves.py."""

import random
import unittest

from firstway.notation.reader import read_pattern
from firstway.threads.cores import Core, fresh, prepare
from firstway.threads.moves import moves, numbers_of, taken_code
from firstway.threads.spots import Spot, View
from tests import core_oracle
from tests.helpers import few_calls, one
from tests.oracle import Maker

A = ((97, 98),)
EMPTY = ("empty",)
NOTHING = ((), (), ())


def spot_at(position, before=None, after=None, bits=()):
    return Spot(position, before, after, bits)


def some_registers(chance, groups, looks):
    opened = tuple(chance.randint(0, 9) for _ in range(groups))
    held = tuple(chance.choice((None, (1, 2))) for _ in range(groups))
    return opened, held, tuple(chance.choice((None, 4)) for _ in range(looks))


def some_spot(chance, looks):
    before, after = (chance.choice((None, 97, 32, 10)) for _ in range(2))
    return Spot(chance.randint(0, 9), before, after, tuple(chance.random() < 0.5 for _ in range(looks)))


class SpotsTest(unittest.TestCase):

    def test_spot(self):
        spot = Spot(3, 97, None, (True, False))
        self.assertEqual((spot.position, spot.before, spot.after, spot.bits), (3, 97, None, (True, False)))

    def test_view(self):
        view = View("ab", [[True, False, True], [False, False, True]])
        found = [(s.position, s.before, s.after, s.bits) for s in (view.spot(0), view.spot(1), view.spot(2))]
        self.assertEqual(found, [
            (0, None, 97, (True, False)), (1, 97, 98, (False, False)), (2, 98, None, (True, True)),
        ])
        self.assertEqual((view.text, view.rows), ("ab", [[True, False, True], [False, False, True]]))

    def test_view_of_an_empty_text(self):
        spot = View("", []).spot(0)
        self.assertEqual((spot.position, spot.before, spot.after, spot.bits), (0, None, None, ()))

    def test_view_keeps_copies(self):
        rows = [[True, False]]
        view = View("a", rows)
        rows[0][0] = False
        rows.append([True, True])
        self.assertEqual((view.rows, view.spot(0).bits), ([[True, False]], (True,)))

    def test_taken_code(self):
        for backward, wanted in ((False, 98), (True, 97)):
            self.assertEqual(taken_code(Core(EMPTY, backward), spot_at(1, 97, 98)), wanted)
        self.assertIsNone(taken_code(Core(EMPTY, False), spot_at(1, 97, None)))
        self.assertIsNone(taken_code(Core(EMPTY, True), spot_at(0, None, 97)))


class EachKindTest(unittest.TestCase):

    def moves_of(self, tree, spot=None, registers=NOTHING):
        core = Core(tree, False)
        spot = spot or spot_at(5, 97, 98)
        found = moves(core, None, spot, registers)
        self.assertEqual(numbers_of(core, None, spot), [number for number, _ in found])
        return found

    def test_what_ends(self):
        registers = ((1, 2), ((0, 1), (1, 3)), (4, 4))
        self.assertEqual(self.moves_of(EMPTY, None, registers), [(None, registers)])
        self.assertEqual(self.moves_of(("open", 1), None, registers), [(None, ((1, 5), ((0, 1), (1, 3)), (4, 4)))])
        self.assertEqual(self.moves_of(("close", 0), None, registers), [(None, ((1, 2), ((1, 5), (1, 3)), (4, 4)))])
        found = self.moves_of(("forget", (1,), (0,)), None, registers)
        self.assertEqual(found, [(None, ((1, 2), ((0, 1), None), (None, 4)))])

    def test_close_takes_the_lesser_position_first(self):
        found = self.moves_of(("close", 0), spot_at(3), ((7,), (None,), ()))
        self.assertEqual(found, [(None, ((7,), ((3, 7),), ()))])
        found = self.moves_of(("close", 0), spot_at(7), ((7,), (None,), ()))
        self.assertEqual(found, [(None, ((7,), ((7, 7),), ()))])

    def test_bits(self):
        registers = ((), (), (None, 2))
        spot = spot_at(5, None, None, (True, False))
        self.assertEqual(self.moves_of(("bit", 0, True), spot, registers), [(None, ((), (), (5, 2)))])
        self.assertEqual(self.moves_of(("bit", 0, False), spot, registers), [])
        self.assertEqual(self.moves_of(("bit", 1, True), spot, registers), [])
        self.assertEqual(self.moves_of(("bit", 1, False), spot, registers), [(None, registers)])

    def test_bits_may_end_early(self):
        spot = spot_at(5, None, None, (True,))
        self.assertEqual(self.moves_of(("bit", 0, True), spot, ((), (), (None, None))), [(None, ((), (), (5, None)))])

    def test_anchors(self):
        self.assertEqual(self.moves_of(("anchor", "word_boundary"), spot_at(1, 97, 32)), [(None, NOTHING)])
        self.assertEqual(self.moves_of(("anchor", "word_boundary"), spot_at(1, 97, 97)), [])
        self.assertEqual(self.moves_of(("anchor", "text_end"), spot_at(1, 97, None)), [(None, NOTHING)])

    def test_a_set_asks_for_no_character(self):
        for spot in (spot_at(0), spot_at(1, 97, 33)):
            self.assertEqual(self.moves_of(("set", 0, A), spot), [(0, NOTHING)])

    def test_sequence_and_choice(self):
        a, b, c = (("set", number, A) for number in range(3))
        self.assertEqual(self.moves_of(("sequence", a, b)), [(0, NOTHING)])
        tree = ("sequence", ("choice", a, ("choice", EMPTY, b)), c)
        self.assertEqual([number for number, _ in self.moves_of(tree)], [0, 2, 1])
        self.assertEqual(self.moves_of(("choice", EMPTY, EMPTY)), [(None, NOTHING)])

    def test_the_first_end_counts(self):
        tree = ("sequence", ("choice", ("open", 0), EMPTY), ("set", 0, A))
        self.assertEqual(self.moves_of(tree, None, ((None,), (None,), ())), [(0, ((5,), (None,), ()))])

    def test_nonempty(self):
        a = ("set", 0, A)
        self.assertEqual(self.moves_of(("nonempty", EMPTY)), [])
        self.assertEqual(self.moves_of(("nonempty", ("choice", EMPTY, a))), [(0, NOTHING)])

    def test_star(self):
        a = ("set", 0, A)
        opened = ("sequence", ("open", 0), ("choice", EMPTY, a))
        registers = ((None,), (None,), ())
        inside = (0, ((5,), (None,), ()))
        self.assertEqual(self.moves_of(("star", opened, True), None, registers), [inside, (None, registers)])
        self.assertEqual(self.moves_of(("star", opened, False), None, registers), [(None, registers), inside])
        self.assertEqual(self.moves_of(("star", EMPTY, True)), [(None, NOTHING)])

    def test_behind_a_set(self):
        a, b = ("set", 0, A), ("set", 1, A)
        core = Core(("sequence", ("star", a, False), b), False)
        self.assertEqual(numbers_of(core, 0, spot_at(1)), [1, 0])
        self.assertEqual(moves(core, 1, spot_at(1), NOTHING), [(None, NOTHING)])

    def test_a_star_that_is_entered_anew(self):
        inner = ("star", ("set", 0, A), False)
        core = Core(("star", ("sequence", ("open", 0), inner), True), False)
        registers = ((None,), (None,), ())
        found = moves(core, 0, spot_at(5), registers)
        self.assertEqual(found, [(0, ((5,), (None,), ())), (None, registers)])

    def test_behind_a_set_in_a_nonempty(self):
        inner = ("nonempty", ("sequence", ("set", 0, A), EMPTY))
        core = Core(("sequence", inner, ("choice", ("set", 1, A), EMPTY)), False)
        self.assertEqual(numbers_of(core, 0, spot_at(1)), [1, None])
        self.assertEqual(numbers_of(core, None, spot_at(1)), [0])


class MovesTest(unittest.TestCase):

    def check(self, core, spot, registers):
        for number in [None, *range(len(core.sets))]:
            if number is None:
                wanted = core_oracle.moves(core.tree, spot, registers)
            else:
                wanted = core_oracle.moves_of_all(core.rests[number], spot, registers)
            self.assertEqual(moves(core, number, spot, registers), wanted, (core.tree, number))
            self.assertEqual(numbers_of(core, number, spot), [taken for taken, _ in wanted])

    def test_random_patterns(self):
        maker = Maker(52)
        chance = random.Random(52)
        for _ in range(400):
            prepared = prepare(maker.tree(5))
            looks = len(prepared.looks)
            spot = some_spot(chance, looks)
            registers = some_registers(chance, prepared.group_total, looks)
            for core in [prepared.core] + [look.body for look in prepared.looks]:
                self.check(core, spot, registers)

    def some_core_tree(self, chance, depth, numbers):
        pick = chance.random()
        if depth == 0 or pick < 0.1:
            if chance.random() < 0.5:
                return ("set", next(numbers), A)
            return chance.choice((
                EMPTY, ("anchor", "word_boundary"), ("open", 0), ("close", 0), ("forget", (0,), (0,)),
                ("bit", 0, True), ("bit", 1, False), ("open", 1), ("close", 1)))
        first = self.some_core_tree(chance, depth - 1, numbers)
        if pick < 0.75:
            second = self.some_core_tree(chance, depth - 1, numbers)
            return ("sequence" if pick < 0.4 else "choice", first, second)
        if pick < 0.83:
            return ("nonempty", first)
        return ("star", first, chance.random() < 0.5)

    def test_random_core_trees(self):
        chance = random.Random(53)
        for _ in range(1500):
            tree = self.some_core_tree(chance, chance.randint(1, 6), iter(range(1000)))
            core = Core(tree, chance.random() < 0.5)
            self.assertEqual((core.sets, core.rests), core_oracle.sets_and_rests(tree))
            self.check(core, some_spot(chance, 2), some_registers(chance, 2, 2))

    def test_lists_are_new(self):
        core = Core(("set", 0, A), False)
        moves(core, None, spot_at(0), NOTHING).clear()
        numbers_of(core, None, spot_at(0)).clear()
        self.assertEqual(moves(core, None, spot_at(0), NOTHING), [(0, NOTHING)])
        self.assertEqual(numbers_of(core, None, spot_at(0)), [0])

    def test_great_patterns(self):
        deep = one("a")
        for number in range(300):
            deep = ("group", 299 - number, deep)
        with few_calls():
            prepared = prepare(deep)
            found = moves(prepared.core, None, spot_at(4), fresh(prepared))
            self.assertEqual(found, [(0, ((4,) * 300, (None,) * 300, ()))])
            one_by_one = [*range(100), None]
            first_choices = [*range(0, 100, 2), None, *range(99, 0, -2)]
            for source, wanted in (
                ("a?" * 100, one_by_one), ("(?:(?:a?){50}){2}", one_by_one), ("(?:a?|b?){50}", first_choices),
            ):
                core = prepare(read_pattern(source, "")[0]).core
                self.assertEqual(numbers_of(core, None, spot_at(0)), wanted)
                self.assertEqual(numbers_of(core, 99, spot_at(0)), [None])
