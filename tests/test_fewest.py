"""Points 6, 8, 9 and 10: the fewest boxes, and papers that show it."""

import random
import unittest
from itertools import product

from boxfew.errors import NoPacking
from boxfew.fewest import fewest, shows
from tests import oracle


class FewestTest(unittest.TestCase):
    def told(self, book):
        """What fewest tells, its packing and its paper looked over by shows and by the plain way."""
        many, packing, paper = fewest(book)
        self.assertIs(type(packing), list)
        self.assertTrue(oracle.is_good(book, packing))
        self.assertEqual(max(packing, default=-1) + 1, many)
        self.assertIs(shows(book, many, paper), True)
        self.assertIs(oracle.shows(book, many, paper), True)
        if book[1]:
            self.assertIs(shows(book, many + 1, paper), False)
        return many

    def test_no_things(self):
        for room in (1, 999):
            self.assertEqual(fewest((room, (), (), ())), (0, [], ("weighing", [], 1)))

    def test_one_thing(self):
        self.assertEqual(self.told((1, (1,), (), ())), 1)
        self.assertEqual(self.told((999, (999,), (), ())), 1)

    def test_sizes_that_just_fill_a_box(self):
        self.assertEqual(self.told((10, (1,) * 10, (), ())), 1)
        self.assertEqual(self.told((9, (1,) * 10, (), ())), 2)
        self.assertEqual(self.told((10, (6, 4, 5, 5, 7, 3), (), ())), 3)
        self.assertEqual(self.told((999, (999,) * 10, (), ())), 10)
        self.assertEqual(self.told((999, (500,) * 10, (), ())), 10)

    def test_more_boxes_than_sizes_alone_ask_for(self):
        self.assertEqual(self.told((10, (6,) * 10, (), ())), 10)
        self.assertEqual(self.told((10, (4,) * 9, (), ())), 5)
        self.assertEqual(self.told((10, (6, 6, 6, 5, 5, 5), (), ())), 5)

    def test_apart(self):
        ring = ((0, 1), (1, 2), (2, 3), (3, 4), (0, 4))
        self.assertEqual(self.told((9, (1,) * 5, ring, ())), 3)
        # each of five stands apart of all others, as twenty pairs allow for
        pairs = tuple((one, other) for one in range(6) for other in range(one + 1, 6))
        self.assertEqual(self.told((9, (1,) * 10, pairs, ())), 6)

    def test_ahead(self):
        # strictly ahead, one behind the other
        pairs = tuple((thing, thing + 1) for thing in range(9))
        self.assertEqual(self.told((999, (1,) * 10, pairs, pairs)), 10)
        self.assertEqual(self.told((999, (1,) * 10, pairs, ())), 2)
        self.assertEqual(self.told((999, (1,) * 10, (), pairs)), 1)

    def test_ahead_asks_for_more_where_no_weighing_shows_it(self):
        book = (10, (1, 9, 10, 10, 10, 10), (), ((0, 2), (2, 1)))
        self.assertEqual(fewest(book)[2][0], "tree")
        self.assertEqual(self.told(book), 6)
        self.assertEqual(self.told(book[:3] + ((),)), 5)
        self.assertEqual(self.told((10, (1, 9) + (10,) * 6, (), ((0, 2), (2, 1)))), 8)

    def test_apart_asks_for_more_where_no_weighing_shows_it(self):
        # room for two, and two threes of things that can't be shared out among three boxes
        book = (2, (1,) * 6, ((0, 3), (0, 4), (0, 5), (1, 3), (1, 4), (1, 5), (2, 3), (2, 4), (2, 5)), ())
        self.assertEqual(self.told(book), 4)

    def test_rings_are_in_one_box(self):
        self.assertEqual(self.told((6, (3, 3, 3, 3), (), ((0, 2), (2, 0)))), 2)
        self.assertEqual(self.told((6, (4, 2, 4, 2), (), ((1, 3), (3, 1)))), 3)

    def test_twenty_pairs_of_both(self):
        apart = tuple((one, other) for one in range(10) for other in range(one + 1, 10))[::2][:20]
        ahead = tuple((other, one) for one in range(10) for other in range(one + 1, 10))[::2][:20]
        self.told((12, (5, 7, 6, 1, 2, 3, 4, 6, 7, 5), apart, ahead))

    def test_no_packing(self):
        with self.assertRaises(NoPacking) as caught:
            fewest((6, (1, 4, 4, 1), (), ((1, 2), (2, 1))))
        self.assertEqual(caught.exception.things, [1, 2])

    def test_all_tiny_books(self):
        for book in oracle.tiny_books():
            self.compared(book)

    def test_small_books(self):
        for book in oracle.random_books(51, 150, 3, 5):
            self.compared(book)

    def compared(self, book):
        with self.subTest(book=book):
            many = oracle.fewest_boxes(book, len(book[1]))
            if many is None:
                self.assertRaises(NoPacking, fewest, book)
            else:
                self.assertEqual(self.told(book), many)

    def test_large_books(self):
        trees = 0
        for book in oracle.random_books(52, 250, 6, 10, rings=False):
            with self.subTest(book=book):
                self.told(book)
                trees += fewest(book)[2][0] == "tree"
        self.assertGreater(trees, 5)

    def test_asked_again(self):
        for book in ((5, (2, 3, 4), (), ()), (5, (), (), ()), (10, (1, 9, 10), (), ((0, 2), (2, 1)))):
            first = fewest(book)
            kept = repr(first)
            first[1].append(7)
            if first[2][0] == "weighing":
                first[2][1].append(7)
            self.assertEqual(repr(fewest(book)), kept)


class ShowsTest(unittest.TestCase):
    BOOK = (5, (3, 3, 3), (), ())

    def test_weighing_of_more_than_many_less_1_times_most(self):
        paper = ("weighing", [1, 1, 1], 1)
        self.assertTrue(shows(self.BOOK, 3, paper))
        self.assertTrue(shows(self.BOOK, 2, paper))
        self.assertTrue(shows(self.BOOK, 1, paper))
        self.assertFalse(shows(self.BOOK, 4, paper))

    def test_weighing_must_hold(self):
        self.assertFalse(shows((6, (3, 3, 3), (), ()), 2, ("weighing", [1, 1, 1], 1)))
        self.assertTrue(shows((6, (3, 3, 3), (), ()), 2, ("weighing", [1, 1, 1], 2)))
        self.assertFalse(shows((6, (3, 3, 3), (), ()), 3, ("weighing", [1, 1, 1], 2)))

    def test_weights_of_0(self):
        self.assertTrue(shows(self.BOOK, 1, ("weighing", [0, 0, 1], 1)))
        self.assertFalse(shows(self.BOOK, 1, ("weighing", [0, 0, 0], 1)))

    def test_tree(self):
        tree = ("thing", 0, (("thing", 1, (("over", 0), ("thing", 2, (("over", 0), ("over", 1))))),))
        self.assertTrue(shows(self.BOOK, 3, ("tree", tree)))
        self.assertFalse(shows(self.BOOK, 4, ("tree", tree)))
        self.assertTrue(shows(self.BOOK, 1, ("tree", ("room",))))
        self.assertTrue(shows(self.BOOK, 1, ("tree", ("thing", 1, ()))))

    def test_papers_of_another_form_show_nothing(self):
        good = [1, 1, 1]
        papers = (
            ("",), ("nothing",), ("room",), ("over", 0), ("Weighing", good, 1),
            ("weighing",), ("weighing", good), ("weighing", good, 1, 1), ("weighing", 1, good), ("weighing", ("room",)),
            ("weighing", (1, 1, 1), 1), ("weighing", 3, 1), ("weighing", "abc", 1),
            ("weighing", ["1", 1, 1], 1), ("weighing", [None, 1, 1], 1), ("weighing", [True, 1, 1], 1),
            ("weighing", good, "1"), ("weighing", good, None), ("weighing", good, [1]), ("weighing", good, True),
            ("tree",), ("tree", ("room",), 1), ("tree", good, 1), ("tree", "room"), ("tree", ()), ("tree", ["room"]),
            ("tree", None), ("tree", 0), ("tree", ("nothing",)), ("tree", ("tree", ("room",))),
        )
        self.assertTrue(shows(self.BOOK, 2, ("weighing", good, 1)))
        self.assertTrue(shows(self.BOOK, 2, ("tree", ("room",))))
        for paper in papers:
            with self.subTest(paper=paper):
                self.assertIs(shows(self.BOOK, 2, paper), False)

    def test_another_count_of_weights(self):
        for weights in ([], [1, 1], [1, 1, 1, 1], [1, 1, 1, 0]):
            self.assertFalse(shows(self.BOOK, 1, ("weighing", weights, 1)))
        self.assertFalse(shows((5, (), (), ()), 1, ("weighing", [5], 1)))

    def test_weights_below_0_and_most_below_1(self):
        self.assertFalse(shows(self.BOOK, 1, ("weighing", [1, 1, -1], 1)))
        self.assertFalse(shows(self.BOOK, 1, ("weighing", [-1, 5, 5], 5)))
        for most in (0, -1):
            for weights in ([1, 1, 1], [0, 0, 0]):
                self.assertFalse(shows(self.BOOK, 1, ("weighing", weights, most)))
                self.assertFalse(shows(self.BOOK, 3, ("weighing", weights, most)))

    def test_nothing_is_shown_of_no_things(self):
        book = (5, (), (), ())
        papers = [("weighing", [], most) for most in (-1, 0, 1, 5)]
        papers += [("tree", node) for node in (("room",), ("thing", 0, ()), ("over", 0), ("apart", 0, 1))]
        for many in (1, 2, 9):
            for paper in papers:
                self.assertFalse(shows(book, many, paper))

    def test_of_a_book_with_no_packing_any_number_may_be_shown_not_to_do(self):
        book = (5, (3, 3), (), ((0, 1), (1, 0)))
        tree = oracle.full_tree(book, 4, (0, 1))
        self.assertTrue(shows(book, 5, ("tree", tree)))

    def test_what_a_weighing_shows_is_so(self):
        for book in oracle.random_books(61, 60, 0, 3):
            many = oracle.fewest_boxes(book, 4)
            for weights in product(range(3), repeat=len(book[1])):
                for most in (0, 1, 2, 3):
                    for asked in (1, 2, 3, 4):
                        paper = ("weighing", list(weights), most)
                        answer = shows(book, asked, paper)
                        self.assertIs(answer, most > 0 and oracle.shows(book, asked, paper))
                        if answer and many is not None:
                            self.assertLessEqual(asked, many)

    def test_what_is_handed_in_is_unchanged(self):
        weights = [1, 1, 1]
        paper = ("weighing", weights, 1)
        answers = [shows(self.BOOK, 3, paper) for _ in range(3)]
        self.assertEqual((answers, weights, paper), ([True] * 3, [1, 1, 1], ("weighing", [1, 1, 1], 1)))


class SoundTest(unittest.TestCase):
    def test_no_small_tree_shows_what_is_not_so(self):
        chance = random.Random(71)
        shown = 0
        for book in oracle.random_books(72, 1500, 0, 3):
            many = chance.randint(1, 4)
            node = self.some_node(chance, book, many - 1, 3)
            answer = shows(book, many, ("tree", node))
            self.assertIs(answer, oracle.is_shown(book, many - 1, node))
            if answer:
                shown += 1
                self.assertEqual(oracle.good_packings(book, many - 1), [])
        self.assertGreater(shown, 100)

    def some_node(self, chance, book, many, depth):
        one, other = chance.randint(-1, 3), chance.randint(-1, 3)
        if depth and chance.random() < 0.8:
            count = chance.randint(max(0, many - 1), many)
            return "thing", one, tuple(self.some_node(chance, book, many, depth - 1) for _ in range(count))
        leaves = [("over", one), ("room",)]
        leaves += [("apart", *pair) for pair in book[2]] + [("ahead", *pair) for pair in book[3]]
        return chance.choice(leaves + [("apart", one, other), ("ahead", one, other)])
