"""Points 11 and 12: packings with as few things moved as can be, and boxes emptied."""

import random
import unittest
from itertools import product

from boxfew.errors import BadPacking, NoBox
from boxfew.fewest import fewest
from boxfew.packings import is_good
from boxfew.refits import emptied, refit
from tests import oracle

LOOSE = (9, (1, 1, 1), (), ())
NO_THINGS = (5, (), (), ())
RING = (6, (1, 3, 4), (), ((1, 2), (2, 1)))
RING_APART = (9, (1, 1, 1), ((0, 2),), ((0, 2), (2, 0)))


class RefitTest(unittest.TestCase):
    def test_nothing_is_moved_where_nothing_must_be(self):
        for told in ([0, 0, 0], [2, 0, 1], [3, 3, 0]):
            self.assertEqual(refit(LOOSE, told, 4, []), (0, told))

    def test_what_is_too_much_is_moved(self):
        self.assertEqual(refit((5, (2, 3, 4), (), ()), [0, 0, 0], 2, []), (1, [0, 0, 1]))
        self.assertEqual(refit((5, (3, 3, 3), (), ()), [1, 1, 1], 3, []), (2, [0, 1, 2]))

    def test_the_least_packing_of_those_that_move_as_few(self):
        # one of two must go: the first, as 0 is less than 1
        self.assertEqual(refit((5, (3, 3), (), ()), [1, 1], 3, []), (1, [0, 1]))
        self.assertEqual(refit((5, (3, 3), (), ()), [0, 0], 3, []), (1, [0, 1]))
        # fewest moved goes ahead of least
        self.assertEqual(refit((5, (2, 2), (), ()), [1, 2], 3, []), (0, [1, 2]))
        self.assertEqual(refit((5, (2, 2), (), ()), [None, 2], 3, []), (0, [0, 2]))

    def test_nothing_told(self):
        self.assertEqual(refit(LOOSE, [None] * 3, 1, []), (0, [0, 0, 0]))
        self.assertEqual(refit((5, (2, 4, 3), (), ()), [None] * 3, 5, []), (0, [0, 1, 0]))
        self.assertEqual(refit((5, (2, 4, 3), (), ()), [None] * 3, 5, [0, 3]), (0, [1, 2, 1]))

    def test_things_put_in(self):
        self.assertEqual(refit((5, (2, 4, 3), (), ()), [1, 0, None], 3, []), (0, [1, 0, 1]))
        self.assertEqual(refit((5, (3, 4, 3), (), ()), [1, 0, None], 3, []), (0, [1, 0, 2]))
        self.assertEqual(refit((5, (2, 2, 1, 5), (), ()), [0, 1, 0, None], 2, []), (1, [0, 0, 0, 1]))

    def test_apart(self):
        self.assertEqual(refit((9, (1, 1, 1), ((0, 1), (1, 2)), ()), [4, 4, 4], 5, []), (1, [4, 0, 4]))

    def test_ahead(self):
        self.assertEqual(refit((9, (1, 1), (), ((1, 0),)), [0, 2], 3, []), (1, [0, 0]))
        self.assertEqual(refit((1, (1, 1), (), ((1, 0),)), [0, 2], 3, []), (2, [1, 0]))
        # a thing must go between what is told far off from each other
        book = (1, (1, 1, 1), (), ((0, 2), (2, 1)))
        self.assertEqual(refit(book, [10, 70, None], 100, []), (0, [10, 70, 11]))
        self.assertEqual(refit(book, [10, 70, None], 100, [11, 12, 14]), (0, [10, 70, 13]))
        self.assertEqual(refit(book, [10, 12, None], 100, [11]), (1, [0, 12, 1]))

    def test_rings_go_together(self):
        book = (6, (3, 3, 3, 3), (), ((0, 2), (2, 0)))
        self.assertEqual(refit(book, [1, 1, 0, 0], 3, []), (2, [0, 1, 0, 1]))

    def test_no_boxes(self):
        self.assertIsNone(refit(LOOSE, [0, 0, 0], 0, []))
        self.assertIsNone(refit(LOOSE, [None] * 3, 0, []))

    def test_no_things(self):
        for many, barred in ((0, []), (0, [0]), (3, []), (2, [0, 1])):
            self.assertEqual(refit(NO_THINGS, [], many, barred), (0, []))

    def test_too_few_boxes(self):
        self.assertIsNone(refit((5, (3, 3, 3), (), ()), [0, 1, 2], 2, []))
        self.assertIsNone(refit((5, (3, 3, 3), (), ()), [0, 1, 2], 3, [1]))
        self.assertEqual(refit((5, (3, 3, 3), (), ()), [0, 1, 2], 4, [1]), (1, [0, 3, 2]))

    def test_all_boxes_barred(self):
        self.assertIsNone(refit(LOOSE, [0, 1, 2], 3, [2, 0, 1]))
        self.assertIsNone(refit(LOOSE, [None] * 3, 3, [0, 1, 2, 7]))

    def test_barred_beyond_many_or_twice_or_below_0(self):
        self.assertEqual(refit(LOOSE, [0, 1, 2], 3, [3, 9, 10 ** 9]), (0, [0, 1, 2]))
        self.assertEqual(refit(LOOSE, [0, 1, 2], 3, [1, 1, 1, -1]), (1, [0, 0, 2]))

    def test_told_beyond_many(self):
        self.assertEqual(refit(LOOSE, [3, 2, 10 ** 9], 3, []), (2, [0, 2, 0]))
        self.assertEqual(refit(LOOSE, [3, 4, 5], 1, []), (3, [0, 0, 0]))

    def test_told_is_bad(self):
        self.assertEqual(refit(LOOSE, [-1, 2, -5], 3, []), (2, [0, 2, 0]))
        self.assertEqual(refit((1, (1, 1, 1), ((0, 1),), ((2, 1),)), [0, 0, 0], 3, []), (2, [0, 2, 1]))

    def test_told_barred(self):
        self.assertEqual(refit(LOOSE, [1, 1, 2], 3, [1]), (2, [0, 0, 2]))

    def test_very_many_boxes(self):
        far = 10 ** 9
        self.assertEqual(refit((1, (1, 1, 1), (), ()), [far, far, None], far + 1, [0]), (1, [1, far, 2]))
        self.assertEqual(refit((1, (1, 1, 1), (), ((0, 2), (2, 1))), [far - 2, far, far], far + 1, []),
                         (1, [far - 2, far, far - 1]))
        self.assertEqual(refit(LOOSE, [5, None, 5000], 10 ** 6, list(range(5000))), (1, [5000, 5000, 5000]))

    def test_a_group_that_cannot_be_in_one_box(self):
        for book in (RING, RING_APART):
            for told in ([None] * 3, [0, 1, 1], [0, 1, 2]):
                self.assertIsNone(refit(book, told, 5, []))

    def test_ten_things(self):
        full = (10, (1,) * 10, (), ())
        self.assertEqual(refit(full, list(range(10)), 10, []), (0, list(range(10))))
        self.assertEqual(refit(full, list(range(10)), 1, []), (9, [0] * 10))
        self.assertEqual(refit(full, [9 - thing for thing in range(10)], 10, [0, 9]),
                         (2, [1, 8, 7, 6, 5, 4, 3, 2, 1, 1]))
        self.assertEqual(refit((999, (999,) * 10, (), ()), [0] * 10, 10, []), (9, list(range(10))))
        chain = tuple((thing + 1, thing) for thing in range(9))
        # only thing 5 or 6 can stay, with boxes for all others before and behind it
        book = (1, (1,) * 10, (), chain)
        self.assertEqual(refit(book, list(range(10)), 12, []), (9, [10, 9, 8, 7, 6, 5, 3, 2, 1, 0]))
        self.assertEqual(refit(book, list(range(10)), 12, [5]), (10, [10, 9, 8, 7, 6, 4, 3, 2, 1, 0]))
        self.assertEqual(refit(book, list(range(10)), 13, [5]), (9, [12, 11, 10, 9, 8, 7, 6, 2, 1, 0]))

    def test_another_count_is_refused(self):
        for book, told in ((LOOSE, []), (LOOSE, [0, 0]), (LOOSE, [None] * 4), (NO_THINGS, [0]), (RING, [0])):
            for many in (0, 3):
                self.assertRaises(BadPacking, refit, book, told, many, [0])

    def test_all_told_of_small_books(self):
        chance = random.Random(81)
        for book in oracle.random_books(82, 40, 0, 3):
            for told in product((None, 0, 1, 2, 4), repeat=len(book[1])):
                barred = chance.sample(range(-1, 6), chance.choice((0, 0, 1, 2)))
                self.compared(book, list(told), chance.randint(0, 4), barred)

    def test_small_books_and_many_boxes(self):
        chance = random.Random(83)
        for book in oracle.random_books(84, 60, 1, 3):
            told = [chance.choice((None, 3, 7, chance.randint(-1, 13))) for _ in book[1]]
            self.compared(book, told, chance.randint(8, 12), chance.sample(range(13), chance.randint(0, 9)))

    def test_more_things(self):
        chance = random.Random(85)
        for book in oracle.random_books(86, 40, 5, 6):
            told = [chance.choice((None, 0, 1, 2, 3)) for _ in book[1]]
            self.compared(book, told, 3, chance.choice(([], [], [1])))

    def compared(self, book, told, many, barred):
        with self.subTest(book=book, told=told, many=many, barred=barred):
            self.assertEqual(refit(book, told, many, barred), oracle.refit(book, told, many, barred))

    def test_large_books(self):
        chance = random.Random(87)
        for book in oracle.random_books(88, 60, 7, 10, rings=False):
            told = [chance.choice((None, 0, 0, 1, 2, 3, 6)) for _ in book[1]]
            many = fewest(book)[0] + chance.randint(0, 1)
            barred = [many - 1]
            answer = refit(book, told, many, barred)
            self.assertEqual(answer is None, refit(book, told, many - 1, []) is None)
            if answer is not None:
                moved, packing = answer
                self.assertTrue(is_good(book, packing))
                self.assertLess(max(packing), many - 1)
                self.assertEqual(moved, oracle.moved(told, packing))
                self.assertEqual(refit(book, packing, many, barred), (0, packing))

    def test_asked_again(self):
        told, barred = [1, 1, None], [0, 2]
        book = (5, (3, 3, 3), (), ())
        first = refit(book, told, 5, barred)
        self.assertEqual(first, (1, [1, 3, 4]))
        first[1].append(9)
        self.assertRaises(BadPacking, refit, book, [0], 5, barred)
        self.assertEqual(refit(book, told, 5, barred), (1, [1, 3, 4]))
        self.assertEqual((told, barred), ([1, 1, None], [0, 2]))

    def test_what_is_told_is_not_given_back_itself(self):
        told = [0, 1, 2]
        refit(LOOSE, told, 3, [])[1].append(5)
        self.assertEqual(told, [0, 1, 2])


class EmptiedTest(unittest.TestCase):
    def test_emptied(self):
        book = (5, (2, 2, 3), (), ())
        self.assertEqual(emptied(book, [0, 1, 2], 1), (1, [0, 0, 2]))
        self.assertEqual(emptied(book, [0, 1, 2], 2), (1, [0, 1, 0]))
        self.assertEqual(emptied(book, [0, 1, 2], 0), (1, [1, 1, 2]))

    def test_no_more_boxes_than_the_packing_takes(self):
        book = (5, (3, 3, 3), (), ())
        for box in range(3):
            self.assertIsNone(emptied(book, [0, 1, 2], box))
        self.assertEqual(emptied(book, [0, 1, 3], 3), (1, [0, 1, 2]))
        self.assertIsNone(emptied(LOOSE, [0, 0, 0], 0))

    def test_an_empty_box(self):
        book = (5, (3, 3), (), ())
        self.assertEqual(emptied(book, [0, 2], 1), (0, [0, 2]))
        self.assertEqual(emptied(book, [3, 2], 0), (0, [3, 2]))
        self.assertEqual(emptied(book, [3, 2], 3), (1, [0, 2]))

    def test_more_than_what_is_in_the_box_may_be_moved(self):
        book = (3, (1, 2, 2), (), ((1, 0), (0, 2)))
        self.assertEqual(emptied(book, [1, 0, 2], 0), (1, [1, 1, 2]))
        book = (3, (1, 3, 3), (), ((1, 0), (0, 2)))
        self.assertIsNone(emptied(book, [1, 0, 2], 0))
        self.assertEqual(emptied(book, [1, 0, 3], 0), (2, [2, 1, 3]))

    def test_a_box_far_off(self):
        self.assertEqual(emptied(LOOSE, [0, 10 ** 9, 5], 10 ** 9), (1, [0, 0, 5]))

    def test_bad_packings_are_refused(self):
        book = (5, (3, 3, 1), ((0, 2),), ((2, 1),))
        self.assertEqual(emptied(book, [0, 2, 1], 0), (2, [1, 2, 2]))
        bad = ([], [0, 2], [0, 2, 1, 1], [0, 0, 1], [0, 1, 0], [0, 1, 2], [0, -1, 1], [-1, 2, 1], [-3, -2, -2])
        for packing in bad:
            for box in (0, 1, 9, -1):
                with self.subTest(packing=packing, box=box):
                    self.assertRaises(BadPacking, emptied, book, packing, box)

    def test_no_such_box_is_refused(self):
        for packing, boxes in (([0, 1, 2], (3, 4, -1, 10 ** 9)), ([0, 0, 0], (1, -1))):
            for box in boxes:
                self.assertRaises(NoBox, emptied, LOOSE, packing, box)

    def test_of_no_things_no_box_is_taken(self):
        for box in (0, 1, -1):
            self.assertRaises(NoBox, emptied, NO_THINGS, [], box)
        self.assertRaises(BadPacking, emptied, NO_THINGS, [0], 0)

    def test_of_a_group_that_cannot_be_in_one_box_no_packing_is_good(self):
        for book in (RING, RING_APART):
            for packing in product(range(3), repeat=3):
                self.assertRaises(BadPacking, emptied, book, list(packing), 0)

    def test_small_books(self):
        for book in oracle.random_books(91, 40, 1, 4):
            for packing in oracle.good_packings(book, 4)[::5]:
                many = max(packing) + 1
                for box in range(many):
                    with self.subTest(book=book, packing=packing, box=box):
                        self.assertEqual(emptied(book, packing, box), oracle.refit(book, packing, many, [box]))

    def test_asked_again(self):
        packing = [0, 1, 2]
        first = emptied(LOOSE, packing, 2)
        self.assertEqual(first, (1, [0, 1, 0]))
        first[1].clear()
        self.assertRaises(NoBox, emptied, LOOSE, packing, 3)
        self.assertEqual(emptied(LOOSE, packing, 2), (1, [0, 1, 0]))
        self.assertEqual(packing, [0, 1, 2])
