"""Point 13: how many good packings there are, and how evenly things can be spread."""

import random
import unittest

from boxfew.packings import loads
from boxfew.refits import refit
from boxfew.spreads import counted, spread
from tests import oracle

NO_THINGS = (5, (), (), ())
RING = (6, (1, 3, 4), (), ((1, 2), (2, 1)))
RING_APART = (9, (1, 1, 1), ((0, 2),), ((0, 2), (2, 0)))
LOOSE = (10, (1,) * 10, (), ())


class CountedTest(unittest.TestCase):
    def test_boxes_may_stay_empty(self):
        self.assertEqual([counted(LOOSE, many) for many in (0, 1, 2, 3)], [0, 1, 2 ** 10, 3 ** 10])
        self.assertEqual([counted((5, (5,), (), ()), many) for many in range(4)], [0, 1, 2, 3])

    def test_each_alone(self):
        self.assertEqual([counted((5, (3, 3, 3), (), ()), many) for many in range(6)], [0, 0, 0, 6, 24, 60])

    def test_pairs(self):
        self.assertEqual(counted((9, (1, 1), ((0, 1),), ()), 4), 12)
        self.assertEqual(counted((9, (1, 1), (), ((1, 0),)), 4), 10)
        self.assertEqual(counted((9, (1, 1), ((0, 1),), ((1, 0),)), 4), 6)
        self.assertEqual(counted((9, (1, 1), (), ((1, 0), (0, 1))), 4), 4)

    def test_no_things(self):
        for many in (0, 1, 7):
            self.assertEqual(counted(NO_THINGS, many), 1)

    def test_no_good_packing(self):
        for book in (RING, RING_APART):
            for many in (0, 1, 3, 100):
                self.assertEqual(counted(book, many), 0)

    def test_very_many_boxes(self):
        many = 10 ** 9
        self.assertEqual(counted(LOOSE, many), many ** 10)
        self.assertEqual(counted((5, (3, 3), (), ()), many), many * (many - 1))

    def test_small_books(self):
        for book in oracle.random_books(101, 100, 0, 4):
            for many in range(6):
                self.assertEqual(counted(book, many), len(oracle.good_packings(book, many)), (book, many))

    def test_more_things(self):
        for book in oracle.random_books(102, 40, 5, 7):
            self.assertEqual(counted(book, 3), len(oracle.good_packings(book, 3)), book)

    def test_chain_of_ten(self):
        chain = tuple((thing, thing + 1) for thing in range(9))
        self.assertEqual(counted((10, (1,) * 10, (), chain), 2), 11)
        self.assertEqual(counted((10, (1,) * 10, chain, chain), 12), 66)


class SpreadTest(unittest.TestCase):
    def test_spread(self):
        self.assertEqual(spread((9, (4, 3, 2, 1), (), ()), 2), (5, [0, 1, 1, 0]))
        self.assertEqual(spread((9, (1, 2, 3, 4), (), ()), 2), (5, [0, 1, 1, 0]))
        self.assertEqual(spread((9, (2, 2, 2), (), ()), 2), (4, [0, 0, 1]))

    def test_the_least_packing_of_those_by_which_none_bears_more(self):
        # a box has to bear 4, so two more things may share another
        self.assertEqual(spread((9, (1, 1, 4), (), ()), 3), (4, [0, 0, 1]))
        self.assertEqual(spread((9, (4, 1, 1), (), ()), 3), (4, [0, 1, 1]))

    def test_pairs(self):
        self.assertEqual(spread((9, (1, 2, 3), ((1, 2),), ()), 2), (3, [0, 0, 1]))
        self.assertEqual(spread((9, (1, 2, 3), ((0, 1),), ()), 2), (4, [0, 1, 0]))
        self.assertEqual(spread((9, (1, 2, 3), ((0, 1),), ((2, 1), (1, 0))), 2), (5, [1, 0, 0]))
        self.assertEqual(spread((9, (1, 2, 3), (), ((2, 0), (0, 2))), 2), (4, [0, 1, 0]))

    def test_one_box_and_very_many(self):
        self.assertEqual(spread((9, (4, 3, 2), (), ()), 1), (9, [0, 0, 0]))
        self.assertEqual(spread((9, (4, 3, 2), (), ()), 10 ** 9), (4, [0, 1, 2]))
        self.assertEqual(spread((999, (999,) * 10, (), ()), 10), (999, list(range(10))))
        self.assertEqual(spread(LOOSE, 10), (1, list(range(10))))
        self.assertEqual(spread(LOOSE, 9), (2, [0, 0, 1, 1, 2, 2, 3, 3, 4, 4]))

    def test_no_things(self):
        for many in (0, 1, 7):
            self.assertEqual(spread(NO_THINGS, many), (0, []))

    def test_there_is_none(self):
        self.assertIsNone(spread(LOOSE, 0))
        self.assertIsNone(spread((9, (1, 2, 7), (), ()), 1))
        self.assertIsNone(spread((9, (1, 1), ((0, 1),), ()), 1))
        for book in (RING, RING_APART):
            for many in (0, 1, 5):
                self.assertIsNone(spread(book, many))

    def test_small_books(self):
        for book in oracle.random_books(103, 100, 0, 4):
            for many in range(5):
                self.assertEqual(spread(book, many), oracle.spread(book, many), (book, many))

    def test_more_things(self):
        for book in oracle.random_books(104, 40, 5, 6):
            self.assertEqual(spread(book, 3), oracle.spread(book, 3), book)

    def test_large_books(self):
        chance = random.Random(105)
        for book in oracle.random_books(106, 60, 7, 10, rings=False):
            many = chance.randint(2, 10)
            answer = spread(book, many)
            if answer is None:
                self.assertEqual(counted(book, many), 0)
                continue
            most, packing = answer
            self.assertEqual(most, max(loads(book, packing)))
            nothing = [None] * len(packing)
            self.assertEqual(refit((most, *book[1:]), nothing, many, []), (0, packing))
            if most > max(book[1]):
                self.assertIsNone(refit((most - 1, *book[1:]), nothing, many, []))

    def test_asked_again(self):
        book = (9, (4, 3, 2, 1), (), ())
        spread(book, 2)[1].append(7)
        self.assertEqual(spread(book, 2), (5, [0, 1, 1, 0]))
        spread(NO_THINGS, 2)[1].append(7)
        self.assertEqual(spread(NO_THINGS, 2), (0, []))
