"""Point 14: books as texts."""

import random
import unittest

from boxfew.errors import BadBook, BadText
from boxfew.texts import read, written
from tests import oracle
from tests.test_books import BAD, GOOD

TEXT = "room 10\nsizes 2 3 4\napart 0 1\napart 0 2\nahead 2 0\nahead 0 1"
BOOK = (10, (2, 3, 4), ((0, 1), (0, 2)), ((2, 0), (0, 1)))


class WrittenTest(unittest.TestCase):
    def test_written(self):
        self.assertEqual(written(BOOK), TEXT)
        self.assertEqual(written((999, (), (), ())), "room 999\nsizes")
        self.assertEqual(written((5, (5, 1), (), ())), "room 5\nsizes 5 1")
        self.assertEqual(written((5, (5, 1), (), ((1, 0),))), "room 5\nsizes 5 1\nahead 1 0")
        self.assertEqual(written((5, (5, 1), ((0, 1),), ())), "room 5\nsizes 5 1\napart 0 1")

    def test_what_is_written_is_read_to_the_same_book(self):
        for book in (BOOK, *GOOD, *oracle.random_books(111, 200, 0, 10)):
            with self.subTest(book=book):
                self.assertEqual(read(written(book)), book)
                self.assertEqual(written(book), oracle.written(book))

    def test_kinds(self):
        book = read(TEXT)
        self.assertEqual([type(part) for part in book], [int, tuple, tuple, tuple])
        self.assertEqual({type(pair) for pair in book[2] + book[3]}, {tuple})


class ReadTest(unittest.TestCase):
    def refused(self, text, row):
        with self.subTest(text=text):
            with self.assertRaises(BadText) as caught:
                read(text)
            self.assertEqual(caught.exception.row, row)
            self.assertEqual(oracle.wrong_row(text), row)

    def test_read(self):
        self.assertEqual(read(TEXT), BOOK)
        self.assertEqual(read("room 1\nsizes"), (1, (), (), ()))
        self.assertEqual(read("room 9\nsizes 9 1\nahead 1 0"), (9, (9, 1), (), ((1, 0),)))
        self.assertEqual(read("room 9\nsizes 9 1\nahead 1 0\nahead 0 1"), (9, (9, 1), (), ((1, 0), (0, 1))))

    def test_the_empty_text(self):
        self.refused("", 0)

    def test_one_row_alone(self):
        self.refused("room 5", 1)
        self.refused("sizes 5", 0)
        self.refused("room", 0)
        self.refused("room 05", 0)

    def test_the_first_row(self):
        for row in ("", " ", "room", "room ", "room 5 5", "room  5", " room 5", "room 5 ", "Room 5", "ROOM 5", "rooms 5",
                    "room5", "room x", "room -5", "room +5", "room 5.0", "room 5,", "room 1_0", "room\t5", "room 5\r",
                    "room 0x5", "5", "5 room", "sizes 5", "apart 0 1", "ahead 0 1"):
            self.refused(row + "\nsizes 1 1", 0)
            self.refused(row + "\nsizes 01", 0)

    def test_the_second_row(self):
        for row in ("", " ", "sizes ", "sizes  1", " sizes", "sizes 1 ", "sizes 1  2", "size 1", "sizes 1 x", "sizes 1 -2",
                    "sizes 1\t2", "sizes,1", "sizes 1,2", "sizes 1\r", "room 5", "apart 0 1", "ahead 0 1", "1 2"):
            self.refused("room 5\n" + row, 1)
            self.refused("room 5\n" + row + "\nahead 0 1\nnothing", 1)

    def test_rows_of_pairs(self):
        for word in ("apart", "ahead"):
            for rest in ("", " ", " 0", " 0 ", " 0 1 ", " 0 1 2", "  0 1", " 0  1", " 0 x", " 0 -1", "\t0 1", " 0,1"):
                self.refused(f"room 5\nsizes 1 1\n{word}{rest}", 2)
                self.refused(f"room 5\nsizes 1 1\n{word} 0 1\n{word}{rest}\nnothing", 3)
        for row in ("", " ", "Apart 0 1", "apart_ 0 1", " ahead 0 1", "room 5", "sizes 1 1", "behind 0 1", "0 1"):
            self.refused(f"room 5\nsizes 1 1\n{row}", 2)
            self.refused(f"room 5\nsizes 1 1\nahead 0 1\n{row}", 3)

    def test_rows_in_another_order(self):
        self.refused("sizes 1 1\nroom 5", 0)
        self.refused("room 5\napart 0 1\nsizes 1 1", 1)
        self.refused("room 5\nsizes 1 1\nahead 0 1\napart 0 1", 3)
        self.refused("room 5\nsizes 1 1\napart 0 1\nahead 0 1\nahead 1 0\napart 0 1\nahead x", 5)
        self.refused("room 5\nsizes 1 1\nroom 5", 2)
        self.refused("room 5\nsizes 1 1\napart 0 1\nsizes 1 1", 3)

    def test_line_ends(self):
        self.refused("room 5\nsizes 1 1\n", 2)
        self.refused("room 5\n", 1)
        self.refused("\n", 0)
        self.refused("\nroom 5\nsizes 1 1", 0)
        self.refused("room 5\n\nsizes 1 1", 1)
        self.refused("room 5\r\nsizes 1 1", 0)
        self.refused("room 5\rsizes 1 1", 0)
        self.refused("room 5\nsizes 1 1\n\napart 0 1", 2)

    def test_figures(self):
        self.assertEqual(self.why("room 0\nsizes"), "room")
        self.assertEqual(self.why("room 5\nsizes 0"), "sizes")
        self.assertEqual(self.why("room 999999999\nsizes"), "room")
        self.assertEqual(self.why("room 5\nsizes 123456789"), "sizes")
        self.assertEqual(self.why("room 5\nsizes 1\napart 0 100000000"), "apart")
        self.assertEqual(self.why("room 5\nsizes 1\nahead 987654321 0"), "ahead")
        for figures in ("1000000000", "0000000005", "00", "05", "000000005", "01"):
            self.refused(f"room {figures}\nsizes", 0)
            self.refused(f"room 5\nsizes 1 {figures}", 1)
            self.refused(f"room 5\nsizes 1\napart 0 {figures}", 2)
            self.refused(f"room 5\nsizes 1\nahead {figures} 0", 2)

    def test_only_the_ten_figures(self):
        for figure in ("\u0665", "\u00b2", "\uff15"):
            self.refused(f"room {figure}\nsizes", 0)
            self.refused(f"room 5\nsizes 1 {figure}", 1)
            self.refused(f"room 5\nsizes 1 1\napart 0 {figure}", 2)
        self.refused("room\u00a05\nsizes", 0)
        self.refused("room 5\u2028sizes", 0)

    def why(self, text):
        with self.assertRaises(BadBook) as caught:
            read(text)
        return caught.exception.why

    def test_good_rows_of_no_book(self):
        tried = 0
        for book, why in BAD:
            if len(book) == 4 and "-" not in oracle.written(book) and {len(pair) for pair in book[2] + book[3]} <= {2}:
                tried += 1
                self.assertEqual(self.why(oracle.written(book)), why, book)
        self.assertGreater(tried, 15)

    def test_a_wrong_row_goes_ahead_of_no_book(self):
        self.refused("room 0\nsizes 6\napart 1 0\nahead 0 0\nnothing", 4)
        self.refused("room 0", 1)
        self.refused("room 0\nsizes 0\nahead 0 0\napart 0 0", 3)

    def test_twenty_pairs_of_each_and_one_more(self):
        rows = written(GOOD[5]).split("\n")
        self.assertEqual(len(rows), 42)
        self.assertEqual(read("\n".join(rows)), GOOD[5])
        self.assertEqual(self.why("\n".join(rows[:2] + ["apart 8 9"] + rows[2:])), "apart")
        self.assertEqual(self.why("\n".join(rows + ["ahead 0 1"])), "ahead")
        self.assertEqual(self.why("\n".join(rows[:2] + rows[2:3] * 2)), "apart")

    def test_texts_with_something_changed(self):
        chance = random.Random(112)
        good = 0
        for book in oracle.random_books(113, 1500, 0, 4):
            text = self.changed(chance, written(book))
            row = oracle.wrong_row(text)
            if row is not None:
                self.refused(text, row)
                continue
            try:
                self.assertEqual(written(read(text)), text)
                good += 1
            except BadBook:
                pass
        self.assertGreater(good, 50)

    def changed(self, chance, text):
        """The text with a few letters or rows changed."""
        if chance.random() < 0.3:
            rows = text.split("\n")
            chance.shuffle(rows)
            return "\n".join(rows)
        for _ in range(chance.randint(1, 2)):
            at = chance.randint(0, len(text))
            put = chance.choice(("", "", " ", "\n", "0", "1", "12345678", "x"))
            text = text[:at] + put + text[at + chance.randint(0, 1):]
        return text

    def test_asked_again(self):
        self.assertEqual(read(TEXT), BOOK)
        self.assertRaises(BadText, read, TEXT + "\n")
        self.assertRaises(BadBook, read, TEXT + "\nahead 0 1")
        self.assertEqual(read(TEXT), BOOK)
        self.assertEqual(written(BOOK), TEXT)
