"""Points 70 and 71 and the interface under lazy/cache.py."""

import random
import unittest

from firstway.errors import CountError
from firstway.lazy.cache import StepCache

OUTCOME = (((0,), False), False)


def question(number):
    return (((number,), False), (None, (True, False), ()))


def filled(bound, count):
    cache = StepCache(bound)
    for number in range(count):
        cache.learn(question(number), ((), number))
    return cache


class StepCacheTest(unittest.TestCase):

    def test_empty(self):
        cache = StepCache(5)
        self.assertEqual((cache.bound, cache.questions(), cache.outcome(question(0))), (5, [], None))

    def test_bounds(self):
        for bound in (0, -1, 1001, 5000):
            with self.assertRaises(CountError):
                StepCache(bound)
        for bound in (1, 2, 1000):
            self.assertEqual(StepCache(bound).bound, bound)

    def test_learning(self):
        cache = StepCache(3)
        self.assertIsNone(cache.learn(question(7), OUTCOME))
        cache.learn(question(2), (((), True), True))
        self.assertEqual(cache.outcome(question(7)), OUTCOME)
        self.assertEqual(cache.outcome(question(2)), (((), True), True))
        self.assertIsNone(cache.outcome(question(3)))
        self.assertEqual(cache.questions(), [question(7), question(2)])

    def test_asking_leaves_the_order(self):
        cache = filled(3, 3)
        cache.outcome(question(0))
        self.assertEqual(cache.questions(), [question(0), question(1), question(2)])

    def test_a_full_cache_is_emptied(self):
        cache = filled(3, 3)
        cache.learn(question(9), OUTCOME)
        self.assertEqual(cache.questions(), [question(9)])
        self.assertIsNone(cache.outcome(question(2)))
        self.assertEqual(cache.outcome(question(9)), OUTCOME)

    def test_a_bound_of_one(self):
        cache = StepCache(1)
        for number in range(4):
            cache.learn(question(number), OUTCOME)
            self.assertEqual(cache.questions(), [question(number)])

    def test_the_greatest_bound(self):
        cache = filled(1000, 1000)
        self.assertEqual(len(cache.questions()), 1000)
        cache.learn(question(1000), OUTCOME)
        self.assertEqual(cache.questions(), [question(1000)])

    def test_forgetting(self):
        cache = filled(9, 5)
        self.assertEqual(cache.keep_latest(5), 0)
        self.assertEqual(cache.keep_latest(1000), 0)
        self.assertEqual(cache.keep_latest(2), 3)
        self.assertEqual(cache.questions(), [question(3), question(4)])
        self.assertIsNone(cache.outcome(question(2)))
        self.assertEqual(cache.outcome(question(3)), ((), 3))
        self.assertEqual(cache.keep_latest(0), 2)
        self.assertEqual((cache.questions(), cache.keep_latest(0)), ([], 0))

    def test_counts(self):
        cache = filled(9, 5)
        for count in (-1, 1001):
            with self.assertRaises(CountError):
                cache.keep_latest(count)
        self.assertEqual(len(cache.questions()), 5)

    def test_learning_behind_forgetting(self):
        cache = filled(3, 3)
        cache.keep_latest(2)
        cache.learn(question(0), OUTCOME)
        self.assertEqual(cache.questions(), [question(1), question(2), question(0)])
        cache.learn(question(5), OUTCOME)
        self.assertEqual(cache.questions(), [question(5)])

    def test_lists_are_new(self):
        cache = filled(3, 2)
        cache.questions().clear()
        self.assertEqual(cache.questions(), [question(0), question(1)])

    def test_beside_a_list(self):
        chance = random.Random(71)
        for _ in range(100):
            cache = StepCache(chance.randint(1, 6))
            items = []
            for number in range(40):
                if chance.random() < 0.2:
                    count = chance.randint(0, 6)
                    gone = max(0, len(items) - count)
                    self.assertEqual(cache.keep_latest(count), gone)
                    items = items[gone:]
                else:
                    items = [*(items if len(items) < cache.bound else []), number]
                    cache.learn(question(number), ((), number))
                self.assertEqual(cache.questions(), [question(item) for item in items])
                for item in range(number + 1):
                    self.assertEqual(cache.outcome(question(item)), ((), item) if item in items else None)
