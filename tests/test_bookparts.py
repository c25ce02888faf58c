import unittest

from pieceswindow.bookparts import (
    copies_of, drop_of, memory_of, next_number, numbers_of, paces_of, parts_of, pause_of, reach_of, room_of,
    span_of, wait_of)
from tests.samples import BOOK, HEARER, NO_NUMBERS, ROAD, SENDER, ErrorChecks, book_with

# Each value stands once, so that none can be told for another.
APART = ((11, 12, 13, 14, 15, 16), (17, 18), (19, 20, 21, 'slowest'))


class TestBookParts(ErrorChecks, unittest.TestCase):

    def test_examples(self):
        found = [span_of(BOOK), pause_of(BOOK), next_number(BOOK, 2), next_number(BOOK, 3), reach_of(BOOK)]
        self.assertEqual(found, [(1, 4), None, 3, 0, 8])
        self.not_usable('m', next_number, BOOK, 4)

    def test_each_part(self):
        self.assertEqual(paces_of(APART), (11, 12))
        self.assertEqual(parts_of(APART), 13)
        self.assertEqual(copies_of(APART), 14)
        self.assertEqual(numbers_of(APART), 15)
        self.assertEqual(pause_of(APART), 16)
        self.assertEqual(span_of(APART), (17, 35))
        self.assertEqual(wait_of(APART), 19)
        self.assertEqual(memory_of(APART), 20)
        self.assertEqual(room_of(APART), 21)
        self.assertEqual(drop_of(APART), 'slowest')

    def test_pairs_are_tuples(self):
        self.assertIs(type(paces_of(BOOK)), tuple)
        self.assertIs(type(span_of(BOOK)), tuple)
        self.assertEqual(span_of((SENDER, (0, 0), HEARER)), (0, 0))

    def test_next_number(self):
        self.assertEqual([next_number(BOOK, m) for m in range(4)], [1, 2, 3, 0])
        self.assertEqual(next_number(book_with(0, 4, 1), 0), 0)
        self.assertEqual(next_number(book_with(0, 4, 10 ** 59), 10 ** 59 - 1), 0)
        self.assertEqual(next_number(book_with(0, 4, 10 ** 59), 10 ** 59 - 2), 10 ** 59 - 1)

    def test_next_number_does_not_ask_for_pause(self):
        self.assertEqual(next_number(book_with(0, 5, 2), 1), 2)

    def test_next_number_of_other_values(self):
        for m in NO_NUMBERS + (4, 5, 10 ** 59):
            self.not_usable('m', next_number, BOOK, m)
        self.not_usable('m', next_number, book_with(0, 4, 1), 1)

    def test_reach(self):
        self.assertEqual(reach_of(BOOK), 8)
        self.assertEqual([reach_of(book_with(0, 5, pause)) for pause in (2, 7, 8, 9)], [2, 7, 8, 8])
        self.assertEqual(reach_of(book_with(0, 4, 1)), 2)

    def test_reach_does_not_ask_for_b_and_d(self):
        self.assertEqual(reach_of(book_with(0, 1, 50)), 8)
        self.assertEqual(reach_of(((2, 3, 2, 1, 4, None), (50, 3), HEARER)), 8)

    def test_by_name(self):
        self.assertEqual(next_number(book=BOOK, m=0), 1)
        self.assertEqual(next_number(m=3, book=BOOK), 0)
        for part in (paces_of, parts_of, copies_of, numbers_of, pause_of, span_of, wait_of, memory_of, room_of,
                     drop_of, reach_of):
            self.assertEqual(part(book=APART), part(APART))

    def test_books_stay(self):
        book = (SENDER, ROAD, HEARER)
        reach_of(book)
        next_number(book, 0)
        self.assertEqual(book, BOOK)


if __name__ == '__main__':
    unittest.main()
