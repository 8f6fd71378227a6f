"""Point 3: good packings, and what boxes bear."""

import unittest
from itertools import product

from boxfew.errors import BadPacking
from boxfew.packings import is_good, loads
from tests import oracle


class GoodTest(unittest.TestCase):
    def test_a_box_that_is_just_full(self):
        self.assertTrue(is_good((5, (2, 3), (), ()), [0, 0]))
        self.assertFalse(is_good((4, (2, 3), (), ()), [0, 0]))
        self.assertTrue(is_good((999, (998, 1), (), ()), [3, 3]))
        self.assertTrue(is_good((1, (1, 1), (), ()), [1, 0]))

    def test_apart(self):
        book = (9, (1, 1, 1), ((0, 2),), ())
        self.assertFalse(is_good(book, [1, 0, 1]))
        self.assertTrue(is_good(book, [1, 1, 0]))

    def test_ahead(self):
        book = (9, (1, 1), (), ((1, 0),))
        self.assertTrue(is_good(book, [0, 0]))
        self.assertTrue(is_good(book, [1, 0]))
        self.assertFalse(is_good(book, [0, 1]))

    def test_ring(self):
        book = (9, (1, 1), (), ((1, 0), (0, 1)))
        self.assertTrue(is_good(book, [2, 2]))
        self.assertFalse(is_good(book, [1, 2]))

    def test_empty_boxes_and_a_box_far_off(self):
        self.assertTrue(is_good((5, (5, 5), (), ((0, 1),)), [2, 10 ** 12]))
        self.assertFalse(is_good((5, (5, 5), (), ((1, 0),)), [2, 10 ** 12]))

    def test_no_things(self):
        self.assertTrue(is_good((5, (), (), ()), []))

    def test_ten_things(self):
        self.assertTrue(is_good((10, (1,) * 10, (), ()), [4] * 10))
        self.assertFalse(is_good((9, (1,) * 10, (), ()), [4] * 10))

    def test_against_all_packings(self):
        for book in oracle.random_books(21, 60, 0, 4):
            for packing in product(range(3), repeat=len(book[1])):
                self.assertIs(is_good(book, list(packing)), oracle.is_good(book, packing))


class LoadsTest(unittest.TestCase):
    def test_loads(self):
        self.assertEqual(loads((5, (2, 3, 4), (), ()), [1, 0, 1]), [3, 6])

    def test_empty_boxes_are_told(self):
        self.assertEqual(loads((5, (2, 3), (), ()), [3, 1]), [0, 3, 0, 2])
        far = loads((5, (2, 3), (), ()), [0, 10000])
        self.assertEqual((len(far), far[0], far[10000], sum(far)), (10001, 2, 3, 5))

    def test_no_things(self):
        self.assertEqual(loads((5, (), (), ()), []), [])

    def test_bad_packings_have_loads_too(self):
        self.assertEqual(loads((5, (5, 5), ((0, 1),), ()), [0, 0]), [10])

    def test_asked_again(self):
        packing = [1, 0]
        book = (5, (2, 3), (), ())
        given = loads(book, packing)
        given.append(9)
        self.assertEqual(loads(book, packing), [3, 2])
        self.assertTrue(is_good(book, packing))
        self.assertEqual(packing, [1, 0])


class RefusedTest(unittest.TestCase):
    def test_another_count_or_a_number_below_0(self):
        book = (5, (2, 3), (), ())
        for packing in ([], [0], [0, 0, 0], [0, -1], [-1, 0], [-1], [-1, 0, 0]):
            for asked in (is_good, loads):
                with self.subTest(packing=packing, asked=asked):
                    with self.assertRaises(BadPacking):
                        asked(book, packing)

    def test_of_no_things(self):
        for asked in (is_good, loads):
            with self.assertRaises(BadPacking):
                asked((5, (), (), ()), [0])
