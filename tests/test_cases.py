"""Point 7: trees looked over."""

import random
import unittest
from itertools import permutations

from boxfew.cases import is_shown
from tests import oracle

PLAIN = (5, (3, 3, 3), (), ())
ORDERED = (5, (3, 3), (), ((0, 1),))


class LeafTest(unittest.TestCase):
    def test_over(self):
        tree = ("thing", 0, (("thing", 1, (("over", 0),)),))
        self.assertTrue(is_shown(PLAIN, 1, tree))
        self.assertFalse(is_shown((6, (3, 3, 3), (), ()), 1, tree))

    def test_over_is_a_box_that_bears_too_much(self):
        for box in (1, -1, 7):
            self.assertFalse(is_shown(PLAIN, 1, ("thing", 0, (("thing", 1, (("over", box),)),))))
        self.assertFalse(is_shown(PLAIN, 1, ("over", 0)))

    def test_apart(self):
        book = (9, (1, 1, 1), ((0, 2),), ())
        self.assertTrue(is_shown(book, 1, ("thing", 2, (("thing", 0, (("apart", 0, 2),)),))))
        # not a pair, and not the pair as the book has it
        self.assertFalse(is_shown(book, 1, ("thing", 1, (("thing", 0, (("apart", 0, 1),)),))))
        self.assertFalse(is_shown(book, 1, ("thing", 2, (("thing", 0, (("apart", 2, 0),)),))))
        # not both put in
        self.assertFalse(is_shown(book, 1, ("thing", 2, (("apart", 0, 2),))))
        self.assertFalse(is_shown(book, 1, ("apart", 0, 2)))

    def test_apart_in_two_boxes(self):
        book = (9, (1, 1), ((0, 1),), ())
        both = ("apart", 0, 1)
        self.assertFalse(is_shown(book, 2, ("thing", 0, (("thing", 1, (both, both)),))))

    def test_ahead(self):
        # in box 1, or behind: all that is left is the wrong case of both in one box
        book = (3, (2, 2), (), ((0, 1),))
        tree = ("thing", 0, (
            ("thing", 1, (("over", 0), ("ahead", 0, 1))),
            ("thing", 1, (("ahead", 0, 1), ("over", 1)))))
        self.assertFalse(is_shown(book, 2, tree))
        book = (3, (2, 2), (), ((0, 1), (1, 0)))
        self.assertFalse(is_shown(book, 2, tree))
        tree = ("thing", 0, (
            ("thing", 1, (("over", 0), ("ahead", 1, 0))),
            ("thing", 1, (("ahead", 0, 1), ("over", 1)))))
        self.assertTrue(is_shown(book, 2, tree))

    def test_ahead_must_be_behind_a_pair_and_put_in(self):
        book = (9, (1, 1, 1), (), ((0, 1),))
        for leaf in (("ahead", 0, 1), ("ahead", 1, 0), ("ahead", 0, 2)):
            self.assertFalse(is_shown(book, 1, ("thing", 0, (("thing", 1, (leaf,)),))))
            self.assertFalse(is_shown(book, 1, ("thing", 0, (leaf,))))

    def test_ahead_must_be_a_pair(self):
        # room shows all cases but the one asked for
        book = (3, (2, 2, 3), (), ((0, 1),))
        room = ("room",)
        self.assertTrue(is_shown(book, 2, ("thing", 0, (room, ("thing", 1, (("ahead", 0, 1), room))))))
        self.assertFalse(is_shown(book, 2, ("thing", 0, (room, ("thing", 1, (("ahead", 1, 0), room))))))
        self.assertFalse(is_shown(book, 2, ("thing", 0, (room, ("thing", 2, (("ahead", 0, 2), room))))))
        self.assertFalse(is_shown(book, 2, ("thing", 0, (("thing", 1, (room, ("ahead", 0, 1))), room))))

    def test_room(self):
        self.assertTrue(is_shown(PLAIN, 1, ("room",)))
        self.assertFalse(is_shown(PLAIN, 2, ("room",)))
        self.assertTrue(is_shown((4, (3, 3, 3), (), ()), 2, ("room",)))
        self.assertFalse(is_shown((5, (5, 5), (), ()), 2, ("room",)))

    def test_room_behind_things_put_in(self):
        self.assertTrue(is_shown((4, (3, 3, 3), (), ()), 2, ("thing", 1, (("room",),))))
        self.assertFalse(is_shown((5, (3, 3, 3), (), ()), 2, ("thing", 1, (("room",),))))

    def test_a_box_that_bears_too_much_has_less_than_nothing_left(self):
        # box 0 bears 6 of 5, box 1 has 5 left, 4 is still to be put in: 4 is not more than 5 - 1
        book = (5, (3, 3, 4), (), ())
        self.assertFalse(is_shown(book, 2, ("thing", 0, (("thing", 1, (("room",), ("over", 0))),))))
        # with one more in size, 5 is more than 5 - 1
        book = (5, (3, 3, 5), (), ())
        tree = ("thing", 0, (("thing", 1, (("room",), ("room",))),))
        self.assertTrue(is_shown(book, 2, tree))


class ThingTest(unittest.TestCase):
    def test_without_pairs_one_empty_box_is_tried(self):
        tree = ("thing", 0, (
            ("thing", 1, (
                ("over", 0),
                ("thing", 2, (("over", 0), ("over", 1))))),))
        self.assertTrue(is_shown(PLAIN, 2, tree))
        self.assertFalse(is_shown(PLAIN, 3, tree))
        self.assertFalse(is_shown(PLAIN, 1, tree))

    def test_without_pairs_two_empty_boxes_are_too_many(self):
        self.assertFalse(is_shown(PLAIN, 2, ("thing", 0, (("room",), ("room",)))))
        narrow = (4, (3, 3, 3), (), ())
        self.assertTrue(is_shown(narrow, 2, ("thing", 0, (("room",),))))
        self.assertFalse(is_shown(narrow, 2, ("thing", 0, (("room",), ("room",)))))
        self.assertFalse(is_shown(narrow, 2, ("thing", 0, ())))

    def test_with_pairs_all_boxes_are_tried(self):
        book = (4, (3, 3, 3), (), ((0, 1),))
        self.assertFalse(is_shown(book, 2, ("thing", 0, (("room",),))))
        self.assertTrue(is_shown(book, 2, ("thing", 0, (("room",), ("room",)))))
        self.assertFalse(is_shown(book, 2, ("thing", 0, (("room",), ("room",), ("room",)))))

    def test_the_thing_is_not_put_in_yet(self):
        self.assertFalse(is_shown(PLAIN, 1, ("thing", 0, (("thing", 0, (("over", 0),)),))))

    def test_all_nodes_must_show(self):
        book = (9, (1, 1), (), ((0, 1), (1, 0)))
        tree = ("thing", 0, (("room",), ("room",)))
        self.assertFalse(is_shown(book, 2, tree))
        narrow = (5, (5, 5, 5), (), ((0, 1),))
        good = ("room",)
        self.assertTrue(is_shown(narrow, 2, ("thing", 0, (good, good))))
        self.assertFalse(is_shown(narrow, 2, ("thing", 0, (good, ("over", 1)))))
        self.assertFalse(is_shown(narrow, 2, ("thing", 0, (("over", 0), good))))

    def test_each_node_begins_with_the_same_boxes(self):
        # what stood in one case is taken out again before the next one
        book = (5, (3, 3), (), ((0, 1),))
        tree = ("thing", 0, (
            ("thing", 1, (("over", 0), ("over", 0))),
            ("thing", 1, (("ahead", 0, 1), ("over", 1)))))
        self.assertFalse(is_shown(book, 2, tree))

    def test_no_boxes(self):
        self.assertTrue(is_shown(PLAIN, 0, ("room",)))
        self.assertTrue(is_shown(PLAIN, 0, ("thing", 2, ())))
        self.assertTrue(is_shown(ORDERED, 0, ("thing", 1, ())))
        self.assertFalse(is_shown(PLAIN, 0, ("thing", 3, ())))
        self.assertFalse(is_shown(PLAIN, 0, ("thing", 0, (("room",),))))
        self.assertFalse(is_shown(PLAIN, 0, ("over", 0)))

    def test_no_things(self):
        for many in (0, 1, 5):
            for node in (("room",), ("thing", 0, ()), ("over", 0), ("apart", 0, 1), ("ahead", 0, 1)):
                self.assertFalse(is_shown((5, (), (), ()), many, node))

    def test_many_boxes(self):
        book = (999, (999,) * 10, (), ())
        self.assertTrue(is_shown(book, 9, ("room",)))
        self.assertFalse(is_shown(book, 10, ("room",)))
        self.assertFalse(is_shown(book, 10 ** 15, ("thing", 0, (("thing", 1, (("over", 0), ("room",))),))))
        self.assertFalse(is_shown((9, (1, 1), (), ((0, 1),)), 10 ** 15, ("thing", 0, (("room",),))))


class FormTest(unittest.TestCase):
    def test_nodes_of_another_form_show_nothing(self):
        book = (4, (3, 3, 3), ((0, 1),), ((0, 1),))
        nodes = (
            ("",), ("nothing",), ("room", 0), ("room", ()), ("over",), ("over", 0, 0), ("over", "0"), ("over", None),
            ("over", ("over", 0)), ("apart",), ("apart", 0), ("apart", 0, 1, 2), ("apart", "0", 1), ("apart", 0, ()),
            ("apart", -3, -2), ("ahead",), ("ahead", 0), ("ahead", 0, 1, 2), ("ahead", [0], 1), ("ahead", 0, None),
            ("thing",), ("thing", 0), ("thing", 0, (("room",), ("room",)), 0), ("thing", "0", (("room",), ("room",))),
            ("thing", -1, (("room",), ("room",))), ("thing", 3, (("room",), ("room",))),
            ("thing", (0,), (("room",), ("room",))), ("thing", [0], (("room",), ("room",))),
            ("thing", 0, [("room",), ("room",)]), ("thing", 0, ("room",)), ("thing", 0, "ab"), ("thing", 0, 2),
            ("thing", 0, ((), ())), ("thing", 0, (("room",), 5)), ("thing", 0, (None, ("room",))),
            ("thing", 0, (("room",), ["room"])), ("Room",), ("room ",),
        )
        self.assertTrue(is_shown(book, 2, ("thing", 0, (("room",), ("room",)))))
        for node in nodes:
            with self.subTest(node=node):
                self.assertIs(is_shown(book, 2, node), False)
                self.assertIs(is_shown(book, 2, ("thing", 2, (("room",), node))), False)

    def test_true_and_false_are_no_numbers(self):
        book = (3, (2, 2), ((0, 1),), ())
        for leaf in (("over", False), ("apart", False, True), ("apart", 0, True)):
            self.assertFalse(is_shown(book, 1, ("thing", 0, (("thing", 1, (leaf,)),))))
        self.assertFalse(is_shown(book, 1, ("thing", False, (("room",),))))

    def test_numbers_below_0_are_no_things_and_no_boxes(self):
        # each would name a thing or a box if counted from the end
        book = (3, (2, 2), ((0, 1),), ((0, 1),))
        for leaf in (("over", -1), ("apart", -2, -1), ("apart", 0, -1), ("ahead", -2, -1)):
            self.assertFalse(is_shown(book, 1, ("thing", 0, (("thing", 1, (leaf,)),))))


class AgainstPlainTest(unittest.TestCase):
    def test_full_trees(self):
        for book in oracle.random_books(41, 120, 0, 4):
            count = len(book[1])
            for many in range(count + 1):
                for order in list(permutations(range(count)))[::5]:
                    tree = oracle.full_tree(book, many, order)
                    with self.subTest(book=book, many=many, tree=tree):
                        shown = is_shown(book, many, tree)
                        self.assertIs(shown, oracle.is_shown(book, many, tree))
                        self.assertIs(shown, not oracle.good_packings(book, many))

    def test_trees_with_one_node_changed(self):
        chance = random.Random(43)
        shown = 0
        for book in oracle.random_books(42, 400, 1, 4):
            many = chance.randint(0, 3)
            tree = self.changed(oracle.full_tree(book, many, range(len(book[1]))), chance, len(book[1]))
            with self.subTest(book=book, many=many, tree=tree):
                answer = is_shown(book, many, tree)
                self.assertIs(answer, oracle.is_shown(book, many, tree))
                shown += answer
                if answer:
                    self.assertEqual(oracle.good_packings(book, many), [])
        self.assertGreater(shown, 20)

    def changed(self, node, chance, count):
        if node[0] == "thing" and node[2] and chance.random() < 0.7:
            at = chance.randrange(len(node[2]))
            nodes = list(node[2])
            nodes[at] = self.changed(nodes[at], chance, count)
            return node[0], node[1], tuple(nodes)
        one, other = chance.randrange(count), chance.randrange(count)
        return chance.choice((("over", one), ("apart", one, other), ("ahead", one, other), ("room",),
                              ("thing", one, (("room",),) * other), ("thing", one, (("over", 0), ("over", 1)))))

    def test_asked_again(self):
        tree = ("thing", 0, (("thing", 1, (("over", 0),)),))
        self.assertEqual([is_shown(PLAIN, 1, tree) for _ in range(3)], [True] * 3)
        self.assertEqual(tree, ("thing", 0, (("thing", 1, (("over", 0),)),)))
