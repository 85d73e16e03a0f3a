"""Points 7 to 13 and the interface under sets/ranges.py, sets/named.py and sets/cells.py."""

import random
import unittest

from firstway.sets import named
from firstway.sets.cells import cell, cuts, samples
from firstway.sets.ranges import (
    common, complement, contains, folded, least, make_set, size, union, without,
)

EDGE_PAIRS = ((0, 0), (0, 1), (0, 128), (127, 128), (128, 128), (128, 0), (64, 64), (65, 91))


def codes_of(ranges):
    return {code for low, high in ranges for code in range(low, high)}


def is_normal(ranges):
    flat = [border for pair in ranges for border in pair]
    return isinstance(ranges, tuple) and flat == sorted(set(flat)) and all(0 <= b <= 128 for b in flat)


def some_pairs(chance):
    pairs = [(chance.randint(0, 128), chance.randint(0, 128)) for _ in range(chance.randint(0, 6))]
    return pairs + [chance.choice(EDGE_PAIRS) for _ in range(chance.randint(0, 2))]


class MakeSetTest(unittest.TestCase):

    def test_example(self):
        made = make_set([(97, 100), (120, 120), (48, 50), (99, 103)])
        self.assertEqual(made, ((48, 50), (97, 103)))

    def test_edges(self):
        self.assertEqual(make_set([]), ())
        self.assertEqual(make_set([(5, 5), (9, 3), (128, 128), (128, 0)]), ())
        self.assertEqual(make_set([(0, 128)]), ((0, 128),))
        self.assertEqual(make_set([(3, 5), (5, 7)]), ((3, 7),))
        self.assertEqual(make_set([(6, 7), (3, 5)]), ((3, 5), (6, 7)))
        self.assertEqual(make_set([(0, 50), (10, 20), (30, 40)]), ((0, 50),))

    def test_an_empty_pair_joins_nothing(self):
        self.assertEqual(make_set([(1, 3), (3, 3), (4, 6), (5, 4)]), ((1, 3), (4, 6)))
        self.assertEqual(make_set([(2, 1)]), ())

    def test_random_pairs(self):
        chance = random.Random(8)
        for _ in range(500):
            pairs = some_pairs(chance)
            kept = list(pairs)
            made = make_set(pairs)
            self.assertEqual(pairs, kept)
            self.assertTrue(is_normal(made), made)
            self.assertEqual(codes_of(made), codes_of(pairs))


class OperationsTest(unittest.TestCase):

    def test_written_out(self):
        a = ((10, 20), (30, 40))
        b = ((15, 35), (50, 60))
        self.assertEqual(union(a, b), ((10, 40), (50, 60)))
        self.assertEqual(common(a, b), ((15, 20), (30, 35)))
        self.assertEqual(without(a, b), ((10, 15), (35, 40)))
        self.assertEqual(complement(a), ((0, 10), (20, 30), (40, 128)))
        self.assertEqual(union(((3, 5),), ((5, 6),)), ((3, 6),))

    def test_empty_and_full(self):
        self.assertEqual(complement(()), ((0, 128),))
        self.assertEqual(complement(((0, 128),)), ())
        self.assertEqual(complement(((0, 3), (127, 128))), ((3, 127),))
        self.assertEqual((union((), ()), common((), ((0, 128),)), without((), ((1, 2),))), ((), (), ()))

    def test_random_sets(self):
        chance = random.Random(9)
        every = set(range(128))
        for _ in range(500):
            a, b = make_set(some_pairs(chance)), make_set(some_pairs(chance))
            for made, wanted in (
                (union(a, b), codes_of(a) | codes_of(b)), (common(a, b), codes_of(a) & codes_of(b)),
                (without(a, b), codes_of(a) - codes_of(b)), (complement(a), every - codes_of(a)),
            ):
                self.assertTrue(is_normal(made), made)
                self.assertEqual(codes_of(made), wanted)

    def test_contains_size_least(self):
        a = ((10, 20), (30, 31))
        self.assertEqual([code for code in range(128) if contains(a, code)], [*range(10, 20), 30])
        self.assertIs(contains(a, 10), True)
        self.assertIs(contains(a, 20), False)
        self.assertIs(contains((), 0), False)
        self.assertEqual((size(a), size(()), size(((0, 128),))), (11, 0, 128))
        self.assertEqual((least(a), least(((0, 1),))), (10, 0))
        self.assertIsNone(least(()))


class FoldedTest(unittest.TestCase):

    def test_letters(self):
        self.assertEqual(folded(((97, 98),)), ((65, 66), (97, 98)))
        self.assertEqual(folded(((90, 91),)), ((90, 91), (122, 123)))
        self.assertEqual(folded(((65, 91),)), ((65, 91), (97, 123)))

    def test_no_other_codes(self):
        for codes in ((), ((64, 65),), ((91, 97),), ((123, 128),), ((48, 58),), ((0, 65),), ((0, 128),)):
            self.assertEqual(folded(codes), codes)

    def test_across_the_letters(self):
        self.assertEqual(folded(((88, 99),)), ((65, 67), (88, 99), (120, 123)))

    def test_random_sets(self):
        chance = random.Random(11)
        for _ in range(300):
            a = make_set(some_pairs(chance))
            wanted = set(codes_of(a))
            for code in codes_of(a):
                if chr(code).isalpha():
                    wanted.add(ord(chr(code).swapcase()))
            self.assertEqual(codes_of(folded(a)), wanted)
            self.assertTrue(is_normal(folded(a)))


class NamedTest(unittest.TestCase):

    def test_codes(self):
        digits = set(range(48, 58))
        wanted = {
            "NOTHING": set(),
            "EVERY": set(range(128)),
            "DIGITS": digits,
            "WORD": digits | set(range(65, 91)) | {95} | set(range(97, 123)),
            "WHITE": {9, 10, 11, 12, 13, 32},
            "LINE_ENDS": {10, 13},
            "IN_LINE": set(range(128)) - {10, 13},
        }
        for name, codes in wanted.items():
            self.assertTrue(is_normal(getattr(named, name)), name)
            self.assertEqual(codes_of(getattr(named, name)), codes, name)


class CellsTest(unittest.TestCase):

    def test_example(self):
        borders = cuts([((97, 99),), ((98, 128),)])
        found = [borders, cell(borders, 98), samples([((97, 99),), ((98, 128),)])]
        self.assertEqual(found, [[97, 98, 99, 128], 2, [0, 97, 98, 99]])

    def test_edges(self):
        self.assertEqual((cuts([]), cuts([()]), samples([])), ([], [], [0]))
        self.assertEqual(cuts([((0, 128),)]), [0, 128])
        self.assertEqual(samples([((0, 128),)]), [0])
        self.assertEqual(samples([((0, 1), (127, 128))]), [0, 1, 127])
        self.assertEqual([cell([0, 128], code) for code in (0, 127)], [1, 1])
        self.assertEqual([cell([], 5), cell([5], 4), cell([5], 5), cell([5], 6)], [0, 0, 1, 1])

    def test_arguments_stay_and_lists_are_new(self):
        sets = [((9, 11),), (), ((5, 10),)]
        borders = cuts(sets)
        samples(sets).clear()
        cell(borders, 7)
        self.assertEqual((sets, borders), ([((9, 11),), (), ((5, 10),)], [5, 9, 10, 11]))
        borders.clear()
        self.assertEqual((cuts(sets), samples(sets)), ([5, 9, 10, 11], [0, 5, 9, 10, 11]))

    def test_cells_tell_codes_apart(self):
        chance = random.Random(13)
        for _ in range(100):
            sets = [make_set(some_pairs(chance)) for _ in range(chance.randint(0, 3))]
            borders = cuts(sets)
            first = {}
            for code in range(128):
                first.setdefault(cell(borders, code), code)
            self.assertEqual(samples(sets), sorted(first.values()))
            for code in range(128):
                mate = first[cell(borders, code)]
                for codes in sets:
                    self.assertEqual(contains(codes, code), contains(codes, mate))
