"""Points 1, 4 and 8 over all of the program: what is asked again, and what functions tell together."""

import copy
import random
import unittest

from boxfew.books import groups, need_book, need_packing
from boxfew.cases import is_shown
from boxfew.errors import BadBook, BadPacking, BadText, BoxError, NoBox, NoPacking
from boxfew.fewest import fewest, shows
from boxfew.packings import is_good, loads
from boxfew.refits import emptied, refit
from boxfew.spreads import counted, spread
from boxfew.texts import read, written
from boxfew.weighings import heavier
from tests import oracle

BOOKS = (
    (5, (2, 3, 4), ((0, 1),), ((2, 0),)),
    (9, (4, 3, 5, 1), ((0, 3), (1, 2)), ((3, 1), (1, 3), (0, 2))),
    (10, (1, 9, 10), (), ((0, 2), (2, 1))),
    (6, (1, 4, 4), (), ((1, 2), (2, 1))),
    (3, (), (), ()),
)

REFUSED = (
    (BadBook, need_book, ((0, (), (), ()),)),
    (BadBook, refit, ((5, (6,), (), ()), [0], 1, [])),
    (BadBook, spread, ((5, (1,), ((0, 0),), ()), 1)),
    (BadBook, read, ("room 0\nsizes",)),
    (BadText, read, ("room 5\nsizes 1 \n",)),
    (BadPacking, loads, (BOOKS[0], [0, 1])),
    (BadPacking, refit, (BOOKS[0], [0], 3, [])),
    (BadPacking, emptied, (BOOKS[0], [0, 0, 0], 0)),
    (NoBox, emptied, (BOOKS[0], [2, 0, 1], 3)),
    (NoPacking, fewest, (BOOKS[3],)),
    (NoPacking, need_packing, (BOOKS[3],)),
)


def questions(book):
    """Everything that can be asked of a book, as functions with what is handed to them."""
    count = len(book[1])
    told = [2, None, 0, 7][:count]
    packing = list(range(count))[::-1]
    return [
        (need_book, [book]), (groups, [book]), (need_packing, [book]), (fewest, [book]),
        (is_good, [book, packing]), (loads, [book, packing]), (heavier, [book, [3] * count, 4]),
        (is_shown, [book, 1, ("thing", 0, (("room",),))]), (shows, [book, 2, ("weighing", [1] * count, 1)]),
        (refit, [book, told, 4, [1, 9]]), (refit, [book, packing, 3, []]), (emptied, [book, packing, 0]),
        (counted, [book, 3]), (spread, [book, 3]), (written, [book]), (read, [oracle.written(book)]),
    ]


def answer(asked, given):
    """What is told, or the refusal and its fields."""
    try:
        return asked(*given)
    except BoxError as refusal:
        return [refusal.__class__.__name__, refusal.__dict__]


def spoil(told):
    """Change all lists in what was given back."""
    if isinstance(told, dict):
        told = list(told.values())
    if isinstance(told, (list, tuple)):
        for part in told:
            spoil(part)
    if isinstance(told, list):
        told.append(77)
        told[0] = -5


class AskedAgainTest(unittest.TestCase):
    def test_what_is_handed_in_is_unchanged_and_the_same_is_told_again(self):
        first = {}
        for turn in range(3):
            for at, book in enumerate(BOOKS):
                for number, (asked, given) in enumerate(questions(book)):
                    handed_in = copy.deepcopy(given)
                    told = answer(asked, handed_in)
                    self.assertEqual(handed_in, given, asked)
                    kept = first.setdefault((at, number), copy.deepcopy(told))
                    self.assertEqual(told, kept, (turn, asked, book))
                    spoil(told)
                    self.assertEqual(handed_in, given, asked)

    def test_between_and_behind_refused_asks(self):
        first = [[copy.deepcopy(answer(asked, given)) for asked, given in questions(book)] for book in BOOKS]
        for error, wrong, handed_in in REFUSED:
            for at, book in enumerate(BOOKS):
                told = []
                for asked, given in questions(book):
                    before = copy.deepcopy(handed_in)
                    self.assertRaises(error, wrong, *handed_in)
                    self.assertEqual(handed_in, before)
                    told.append(answer(asked, given))
                self.assertEqual(told, first[at])


class TogetherTest(unittest.TestCase):
    def small(self):
        return [*oracle.random_books(121, 120, 0, 5), *BOOKS]

    def test_fewest_is_the_least_many_for_which_some_are_counted(self):
        for book in [*self.small(), *oracle.random_books(122, 40, 6, 9, rings=False)]:
            counts = [counted(book, many) for many in range(len(book[1]) + 2)]
            with self.subTest(book=book):
                if any(counts):
                    many = fewest(book)[0]
                    self.assertEqual([count > 0 for count in counts], [at >= many for at in range(len(counts))])
                else:
                    self.assertRaises(NoPacking, need_packing, book)
                    self.assertRaises(NoPacking, fewest, book)

    def test_spread_and_refit_tell_a_packing_just_where_some_are_counted(self):
        for book in self.small():
            nothing = [None] * len(book[1])
            for many in range(len(book[1]) + 2):
                with self.subTest(book=book, many=many):
                    refitted, told = refit(book, nothing, many, []), spread(book, many)
                    self.assertEqual(refitted is not None, counted(book, many) > 0)
                    self.assertEqual(told is not None, counted(book, many) > 0)
                    if told is not None:
                        self.assertEqual(refitted[0], 0)
                        self.assertTrue(is_good(book, refitted[1]) and is_good(book, told[1]))
                        self.assertEqual(max(loads(book, told[1]), default=0), told[0])
                        self.assertLessEqual(refitted[1], told[1])

    def test_a_group_that_cannot_be_in_one_box(self):
        met = 0
        for book in oracle.random_books(123, 400, 2, 6):
            if any(oracle.good_packings(book, 3)) or answer(need_packing, [book]) is None:
                continue
            met += 1
            for many in (0, 2, len(book[1]) + 1):
                self.assertIsNone(refit(book, [0] * len(book[1]), many, []))
                self.assertIsNone(spread(book, many))
                self.assertEqual(counted(book, many), 0)
            self.assertRaises(BadPacking, emptied, book, [0] * len(book[1]), 0)
        self.assertGreater(met, 20)

    def test_a_good_packing_is_refitted_to_itself(self):
        chance = random.Random(124)
        for book in oracle.random_books(125, 60, 1, 10, rings=False):
            many, packing, _ = fewest(book)
            self.assertEqual(refit(book, packing, many, []), (0, packing))
            box = chance.randrange(many)
            self.assertIsNone(emptied(book, packing, box))

    def test_refitted_into_barred_boxes_as_into_fewer(self):
        for book in self.small():
            count = len(book[1])
            into_open = refit(book, [None] * count, 7, [0, 2, 3])
            into_fewer = refit(book, [None] * count, 4, [])
            if into_fewer is None:
                self.assertIsNone(into_open)
            else:
                self.assertEqual(into_open, (0, [(1, 4, 5, 6)[box] for box in into_fewer[1]]))

    def test_a_book_that_is_read_tells_what_the_written_one_tells(self):
        for book in self.small():
            again = read(written(book))
            for asked, given in questions(book)[:4]:
                self.assertEqual(answer(asked, [again]), answer(asked, given))
