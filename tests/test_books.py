"""Points 2 and 4: books, groups, and whether there is a good packing."""

import unittest
from itertools import combinations, permutations

from boxfew.books import groups, need_book, need_packing
from boxfew.cases import is_shown
from boxfew.errors import BadBook, NoPacking
from boxfew.fewest import fewest, shows
from boxfew.packings import is_good, loads
from boxfew.refits import emptied, refit
from boxfew.spreads import counted, spread
from boxfew.texts import written
from boxfew.weighings import heavier
from tests import oracle

TEN = (1,) * 10
TWENTY_APART = tuple(list(combinations(range(10), 2))[:20])
TWENTY_AHEAD = tuple(list(permutations(range(10), 2))[-20:])

GOOD = (
    (1, (), (), ()),
    (999, (), (), ()),
    (1, (1,), (), ()),
    (999, (999, 1), (), ()),
    (10, TEN, (), ()),
    (10, TEN, TWENTY_APART, TWENTY_AHEAD),
    (5, (1, 2), ((0, 1),), ((0, 1), (1, 0))),
    (5, (1, 2), ((0, 1),), ((1, 0),)),
)

BAD = (
    ((0, (), (), ()), "room"),
    ((-1, (), (), ()), "room"),
    ((1000, (), (), ()), "room"),
    ((5, (0,), (), ()), "sizes"),
    ((5, (-1,), (), ()), "sizes"),
    ((5, (5, 6), (), ()), "sizes"),
    ((999, (1000,), (), ()), "sizes"),
    ((5, (1,) * 11, (), ()), "sizes"),
    ((5, (1, 1), ((1, 0),), ()), "apart"),
    ((5, (1, 1), ((1, 1),), ()), "apart"),
    ((5, (1, 1), ((0, 2),), ()), "apart"),
    ((5, (1, 1), ((-1, 1),), ()), "apart"),
    ((5, (), ((0, 1),), ()), "apart"),
    ((5, (1, 1, 1), ((0, 1), (1, 2), (0, 1)), ()), "apart"),
    ((5, TEN, tuple(list(combinations(range(10), 2))[:21]), ()), "apart"),
    ((5, (1, 1, 1), ((0, 1, 2),), ()), "apart"),
    ((5, (1, 1, 1), ((0,),), ()), "apart"),
    ((5, (1, 1), (), ((1, 1),)), "ahead"),
    ((5, (1, 1), (), ((0, 2),)), "ahead"),
    ((5, (1, 1), (), ((2, 0),)), "ahead"),
    ((5, (1, 1), (), ((0, -1),)), "ahead"),
    ((5, (1, 1), (), ((-1, 0),)), "ahead"),
    ((5, (), (), ((0, 1),)), "ahead"),
    ((5, (1, 1), (), ((1, 0), (0, 1), (1, 0))), "ahead"),
    ((5, TEN, (), tuple(list(permutations(range(10), 2))[:21])), "ahead"),
    ((5, (1, 1, 1), (), ((0, 1, 2),)), "ahead"),
    # several wrongs at once: the first word tells
    ((0, (1,), ((1, 0),), ((1, 1),)), "room"),
    ((1000, (1001,), (), ()), "room"),
    ((5, (6,), ((1, 0),), ((1, 1),)), "sizes"),
    ((5, (1, 1), ((1, 0),), ((1, 1),)), "apart"),
    ((5, (1,) * 11, ((9, 10),), ()), "sizes"),
    # parts that lack, or are too many
    ((), "room"),
    ((5,), "sizes"),
    ((5, (1,)), "apart"),
    ((5, (1,), ()), "ahead"),
    ((5, (1,), (), (), ()), "ahead"),
)

ASKED = {
    "need_book": need_book,
    "groups": groups,
    "need_packing": need_packing,
    # what else is handed in is wrong too: the book is refused ahead of all else
    "is_good": lambda book: is_good(book, [-1] * 20),
    "loads": lambda book: loads(book, [-1] * 20),
    "heavier": lambda book: heavier(book, [], 0),
    "is_shown": lambda book: is_shown(book, 1, ("nothing",)),
    "fewest": fewest,
    "shows": lambda book: shows(book, 1, ("nothing",)),
    "refit": lambda book: refit(book, [None] * 20, 0, [0]),
    "emptied": lambda book: emptied(book, [-1] * 20, -1),
    "counted": lambda book: counted(book, 0),
    "spread": lambda book: spread(book, 0),
    "written": written,
}


class BookTest(unittest.TestCase):
    def test_good_books(self):
        for book in GOOD:
            with self.subTest(book=book):
                self.assertIsNone(need_book(book))

    def test_bad_books_are_refused_wherever_they_are_handed_in(self):
        for book, why in BAD:
            for name, asked in ASKED.items():
                with self.subTest(book=book, name=name):
                    with self.assertRaises(BadBook) as caught:
                        asked(book)
                    self.assertEqual(caught.exception.why, why)

    def test_bad_book_goes_ahead_of_no_packing(self):
        with self.assertRaises(BadBook):
            fewest((5, (3, 3), (), ((0, 1), (1, 0), (1, 1))))


class GroupsTest(unittest.TestCase):
    def test_no_things(self):
        self.assertEqual(groups((3, (), (), ())), [])

    def test_each_alone(self):
        self.assertEqual(groups((3, (1, 1, 1), (), ((2, 0), (0, 1)))), [[0], [1], [2]])

    def test_ring_of_two_and_of_three(self):
        book = (9, (1,) * 6, (), ((5, 1), (1, 5), (4, 0), (0, 2), (2, 4), (4, 5)))
        self.assertEqual(groups(book), [[0, 2, 4], [1, 5], [3]])

    def test_rings_that_touch_are_one(self):
        book = (9, (1,) * 5, (), ((0, 3), (3, 0), (3, 4), (4, 3), (1, 0)))
        self.assertEqual(groups(book), [[0, 3, 4], [1], [2]])

    def test_ring_of_ten(self):
        ring = tuple((thing, (thing + 3) % 10) for thing in range(10))
        self.assertEqual(groups((10, TEN, (), ring)), [list(range(10))])

    def test_one_way_is_no_ring(self):
        chain = tuple((thing, thing + 1) for thing in range(9)) + ((0, 9),)
        self.assertEqual(groups((10, TEN, (), chain)), [[thing] for thing in range(10)])

    def test_against_all_ways(self):
        for book in oracle.random_books(11, 300, 0, 7):
            self.assertEqual(groups(book), self.groups_by_walks(book))

    def groups_by_walks(self, book):
        count = len(book[1])
        reach = []
        for thing in range(count):
            seen = [thing]
            for here in seen:
                seen.extend(other for one, other in book[3] if one == here and other not in seen)
            reach.append(seen)
        found = []
        for thing in range(count):
            group = [other for other in range(count) if other in reach[thing] and thing in reach[other]]
            if group not in found:
                found.append(group)
        return found

    def test_asked_again(self):
        book = (9, (1, 1), (), ((0, 1), (1, 0)))
        given = groups(book)
        given[0].append(7)
        given.append([8])
        self.assertEqual(groups(book), [[0, 1]])


class NeedPackingTest(unittest.TestCase):
    def refused(self, book):
        with self.assertRaises(NoPacking) as caught:
            need_packing(book)
        with self.assertRaises(NoPacking) as again:
            fewest(book)
        self.assertEqual(again.exception.things, caught.exception.things)
        return caught.exception.things

    def test_ring_that_just_fits(self):
        self.assertIsNone(need_packing((6, (1, 2, 3), (), ((0, 1), (1, 2), (2, 0)))))

    def test_ring_that_is_too_much(self):
        self.assertEqual(self.refused((5, (1, 2, 3), (), ((0, 1), (1, 2), (2, 0)))), [0, 1, 2])

    def test_ring_with_a_pair_of_apart(self):
        self.assertEqual(self.refused((9, (1, 1, 1, 1), ((1, 3),), ((3, 1), (1, 3)))), [1, 3])

    def test_pair_of_apart_of_two_groups_is_no_wrong(self):
        self.assertIsNone(need_packing((9, (1, 1, 1), ((0, 1), (0, 2)), ((2, 1), (1, 2), (0, 1)))))

    def test_first_of_several_by_its_least_thing(self):
        pairs = ((4, 5), (5, 4), (1, 3), (3, 1), (0, 2), (2, 0))
        self.assertEqual(self.refused((5, (1, 3, 1, 3, 3, 3), (), pairs)), [1, 3])
        self.assertEqual(self.refused((5, (1, 3, 1, 3, 3, 3), ((4, 5), (0, 2)), pairs)), [0, 2])

    def test_no_things(self):
        self.assertIsNone(need_packing((1, (), (), ())))

    def test_there_is_one_just_if_it_is_not_refused(self):
        for book in oracle.random_books(12, 150, 0, 5):
            packings = oracle.good_packings(book, len(book[1]) + 1)
            with self.subTest(book=book):
                if packings:
                    self.assertIsNone(need_packing(book))
                else:
                    things = self.refused(book)
                    self.assertIn(things, groups(book))

    def test_asked_again(self):
        book = (5, (3, 3), (), ((0, 1), (1, 0)))
        self.refused(book).append(9)
        self.assertEqual(self.refused(book), [0, 1])
