"""Point 5: weighings that hold, and the least set that weighs more."""

import random
import unittest

from boxfew.weighings import heavier
from tests import oracle


class HeavierTest(unittest.TestCase):
    def test_just_met_and_one_too_low(self):
        book = (5, (2, 3, 4), (), ())
        self.assertIsNone(heavier(book, [2, 3, 4], 5))
        self.assertEqual(heavier(book, [2, 3, 4], 4), [0, 1])

    def test_least_list_is_not_the_heaviest(self):
        self.assertEqual(heavier((5, (1, 1, 1), (), ()), [1, 1, 9], 1), [0, 1])
        self.assertEqual(heavier((5, (1, 1, 1), (), ()), [0, 1, 9], 1), [0, 1, 2])
        self.assertEqual(heavier((5, (5, 1, 1), (), ()), [0, 1, 9], 1), [1, 2])
        self.assertEqual(heavier((5, (1, 1, 1), (), ()), [2, 9, 9], 1), [0])

    def test_things_without_weight_stand_in_the_least_list(self):
        self.assertEqual(heavier((5, (1, 1, 1), ((0, 1),), ()), [0, 0, 3], 2), [0, 2])

    def test_apart(self):
        self.assertIsNone(heavier((9, (1, 1), ((0, 1),), ()), [1, 1], 1))
        self.assertEqual(heavier((9, (1, 1), (), ()), [1, 1], 1), [0, 1])

    def test_ahead_is_nothing_to_a_weighing(self):
        self.assertEqual(heavier((9, (1, 1), (), ((0, 1),)), [1, 1], 1), [0, 1])

    def test_weights_of_0_and_no_things(self):
        self.assertIsNone(heavier((9, (1, 1), (), ()), [0, 0], 1))
        self.assertIsNone(heavier((9, (), (), ()), [], 1))

    def test_ten_things(self):
        book = (10, (1,) * 10, (), ())
        self.assertIsNone(heavier(book, [1] * 10, 10))
        self.assertEqual(heavier(book, [1] * 10, 9), list(range(10)))
        self.assertEqual(heavier((999, (111,) * 10, (), ()), [1] * 10, 8), list(range(9)))

    def test_lists_somewhat_beyond_the_things_are_no_error(self):
        self.assertIsNone(heavier((9, (1, 1), (), ()), [1, 1, 7], 2))
        self.assertIsNone(heavier((9, (1, 1), (), ()), [1], 2))

    def test_against_all_sets(self):
        chance = random.Random(31)
        for book in oracle.random_books(32, 250, 0, 7):
            weights = [chance.randint(0, 4) for _ in book[1]]
            most = chance.randint(1, 8)
            self.assertEqual(heavier(book, weights, most), oracle.heavier(book, weights, most))

    def test_asked_again(self):
        book = (5, (2, 3), (), ())
        weights = [1, 1]
        heavier(book, weights, 1).append(5)
        self.assertEqual(heavier(book, weights, 1), [0, 1])
        self.assertEqual(weights, [1, 1])
