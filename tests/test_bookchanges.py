import unittest
from itertools import permutations

from pieceswindow.bookchanges import (
    with_copies, with_drop, with_mark, with_memory, with_numbers, with_parts, with_paces, with_pause, with_road,
    with_room, with_wait, with_ways)
from pieceswindow.bookparts import reach_of, span_of
from pieceswindow.kinds import is_book
from tests.samples import BOOK, HEARER, NO_BOOKS, NO_NUMBERS, ROAD, SENDER, ErrorChecks, book_with, replaced

PAUSED = ((2, 3, 2, 1, 4, 5), ROAD, HEARER)
# Each change of one value: its name, its place, what it lets and what it does not.
SINGLE = (
    (with_parts, 'n', 0, 2, (1, 2, 60, 10 ** 59), (0,) + NO_NUMBERS),
    (with_copies, 'copies', 0, 3, (1, 2, 60, 10 ** 59), (0,) + NO_NUMBERS),
    (with_numbers, 'numbers', 0, 4, (1, 2, 60, 10 ** 59), (0,) + NO_NUMBERS),
    (with_pause, 'pause', 0, 5, (None, 2, 3, 10 ** 59), (0, 1) + tuple(x for x in NO_NUMBERS if x is not None)),
    (with_wait, 'wait', 2, 0, (0, 1, 10 ** 59), NO_NUMBERS),
    (with_memory, 'memory', 2, 1, (0, 1, 10 ** 59), NO_NUMBERS),
    (with_room, 'room', 2, 2, (1, 2, 10 ** 59), (0,) + NO_NUMBERS),
    (with_drop, 'drop', 2, 3, ('eldest', 'newest', 'slowest'),
     ('', 'Newest', 'newest ', 'late', 0, None, True, [], ['newest'], ('newest',))),
)


class TestChanges(ErrorChecks, unittest.TestCase):

    def test_single_values(self):
        for change, word, part, k, good, _ in SINGLE:
            for value in good:
                wanted = book_with(part, k, value)
                self.assertEqual(change(BOOK, value), wanted)
                self.assertEqual(change(**{'book': BOOK, word: value}), wanted)
                self.assertIs(is_book(change(BOOK, value)), True)

    def test_single_values_that_are_not_let(self):
        for change, word, _, _, _, bad in SINGLE:
            for value in bad:
                self.not_usable(word, change, BOOK, value)

    def test_values_of_any_kind(self):
        for change, word, _, _, good, _ in SINGLE:
            for value in NO_BOOKS:
                if value not in good or isinstance(value, bool):
                    self.not_usable(word, change, BOOK, value)

    def test_all_else_remains(self):
        apart = ((11, 12, 13, 14, 15, 16), (17, 18), (19, 20, 21, 'slowest'))
        for change, _, part, k, _, _ in SINGLE[:-1]:
            self.assertEqual(change(apart, 99), book_with(part, k, 99, apart))
        self.assertEqual(with_paces(apart, 1, 2), ((1, 2, 13, 14, 15, 16), (17, 18), apart[2]))
        self.assertEqual(with_road(apart, 1, 2), (apart[0], (1, 2), apart[2]))

    def test_paces(self):
        self.assertEqual(with_paces(BOOK, 1, 1), ((1, 1, 2, 1, 4, None), ROAD, HEARER))
        self.assertEqual(with_paces(BOOK, 9, 10 ** 59)[0][:2], (9, 10 ** 59))
        self.assertEqual(with_paces(b=7, a=6, book=BOOK)[0][:2], (6, 7))
        self.not_usable('b', with_paces, BOOK, 5, 4)
        self.assertEqual(with_paces(BOOK, 5, 5)[0][:2], (5, 5))
        for thing in NO_NUMBERS + (0,):
            self.not_usable('a', with_paces, BOOK, thing, 3)
            self.not_usable('b', with_paces, BOOK, 1, thing)
            self.not_usable('a', with_paces, BOOK, thing, thing)

    def test_paces_beside_pause(self):
        self.assertEqual(with_paces(PAUSED, 5, 5)[0], (5, 5, 2, 1, 4, 5))
        self.assertEqual(with_paces(PAUSED, 5, 9)[0], (5, 9, 2, 1, 4, 5))
        self.not_usable('a', with_paces, PAUSED, 6, 6)
        self.not_usable('a', with_paces, PAUSED, 6, 5)
        self.not_usable('a', with_paces, PAUSED, 6, None)
        self.not_usable('b', with_paces, PAUSED, 5, 4)

    def test_pause_beside_a(self):
        slow = ((4, 9, 2, 1, 4, None), ROAD, HEARER)
        self.assertEqual(with_pause(slow, 4)[0][5], 4)
        self.not_usable('pause', with_pause, slow, 3)
        self.assertEqual(with_pause(PAUSED, None), BOOK)

    def test_road(self):
        self.assertEqual(with_road(BOOK, 0, 0), (SENDER, (0, 0), HEARER))
        self.assertEqual(with_road(late=8, d=7, book=BOOK), (SENDER, (7, 8), HEARER))
        for thing in NO_NUMBERS:
            self.not_usable('d', with_road, BOOK, thing, 0)
            self.not_usable('late', with_road, BOOK, 0, thing)
            self.not_usable('d', with_road, BOOK, thing, thing)

    def test_the_book_stays(self):
        book = (SENDER, ROAD, HEARER)
        for change, _, _, _, good, bad in SINGLE:
            change(book, good[-1])
            with self.assertRaises(ValueError):
                change(book, bad[0])
        with_mark(book, 5)
        with_ways(book, ((0, 0, 9),))
        self.assertEqual(book, ((2, 3, 2, 1, 4, None), (1, 3), (4, 1, 2, 'eldest')))

    def test_changes_are_tuples(self):
        for one in (with_paces(BOOK, 1, 1), with_parts(BOOK, 1), with_road(BOOK, 1, 1), with_wait(BOOK, 1)):
            self.assertEqual([type(one)] + [type(part) for part in one], [tuple] * 4)


class TestMarksAndWays(ErrorChecks, unittest.TestCase):

    def test_examples(self):
        found = [reach_of(with_pause(BOOK, 5)), with_mark(BOOK, 3)[0]]
        self.assertEqual(found, [5, (2, 3, 2, 1, 12, None)])
        self.assertEqual(with_ways(BOOK, ((0, 2, 5), (3, 9, 9), (1, 6, 7)))[1], (2, 10))
        self.not_usable('ways', with_ways, BOOK, ((0, 2, 5), (0, 7, 9)))

    def test_mark(self):
        self.assertEqual(with_mark(BOOK, 1), BOOK)
        self.assertEqual(with_mark(book=BOOK, e=2), book_with(0, 4, 8))
        self.assertEqual(with_mark(BOOK, 10 ** 59), book_with(0, 4, 4 * 10 ** 59))
        for e in NO_NUMBERS + (0,):
            self.not_usable('e', with_mark, BOOK, e)

    def test_mark_of_a_mark(self):
        for e in (1, 2, 3, 10 ** 59):
            for g in (1, 2, 7, 10 ** 59):
                self.assertEqual(with_mark(with_mark(BOOK, e), g), with_mark(BOOK, e * g))

    def test_b_and_d_do_not_count_in_reach(self):
        for one in (BOOK, PAUSED):
            self.assertEqual(reach_of(with_paces(one, 2, 77)), reach_of(one))
            self.assertEqual(reach_of(with_road(one, 77, 3)), reach_of(one))

    def road(self, *ways):
        """The road over these ways, in whatever order they stand."""
        found = {with_ways(BOOK, order) for order in permutations(ways)}
        self.assertEqual(len(found), 1)
        one = found.pop()
        self.assertEqual((one[0], one[2]), (SENDER, HEARER))
        return one[1]

    def left_out(self, *ways):
        for order in permutations(ways):
            self.not_usable('ways', with_ways, BOOK, order)

    def test_one_way(self):
        self.assertEqual(self.road((0, 0, 0)), (0, 0))
        self.assertEqual(self.road((0, 2, 5)), (2, 3))
        self.assertEqual(self.road((4, 2, 5)), (2, 7))
        self.assertEqual(self.road((4, 2, 2)), (2, 4))
        self.assertEqual(with_ways(ways=((0, 10 ** 58, 10 ** 59),), book=BOOK)[1], (10 ** 58, 9 * 10 ** 58))

    def test_ways_that_touch(self):
        self.assertEqual(self.road((0, 2, 5), (0, 6, 9)), (2, 7))
        self.assertEqual(self.road((0, 2, 5), (0, 5, 9)), (2, 7))
        self.assertEqual(self.road((1, 2, 4), (2, 6, 7)), (2, 7))

    def test_ways_that_leave_out_one_moment(self):
        self.left_out((0, 2, 5), (0, 7, 9))
        self.left_out((1, 2, 4), (2, 7, 7))
        self.left_out((0, 0, 0), (0, 2, 2), (0, 4, 4))
        self.assertEqual(self.road((0, 0, 0), (0, 2, 2), (0, 1, 1)), (0, 2))

    def test_ways_that_overlap(self):
        self.assertEqual(self.road((0, 0, 9), (0, 2, 3), (0, 10, 11)), (0, 11))
        self.assertEqual(self.road((0, 0, 9), (0, 2, 3)), (0, 9))
        self.assertEqual(self.road((0, 0, 9), (0, 0, 4), (5, 3, 5)), (0, 10))
        self.left_out((0, 0, 9), (0, 2, 3), (0, 11, 11))

    def test_a_way_twice(self):
        self.assertEqual(self.road((0, 2, 5), (0, 2, 5)), (2, 3))
        self.assertEqual(self.road((0, 2, 5), (3, 6, 7), (0, 2, 5)), self.road((0, 2, 5), (3, 6, 7)))

    def test_more_ways_do_not_make_the_span_less(self):
        some = ((0, 2, 5), (1, 4, 4), (3, 6, 6), (0, 9, 12), (2, 0, 1))
        for many in range(1, len(some)):
            before = span_of(with_ways(BOOK, some[:many]))
            after = span_of(with_ways(BOOK, some[:many + 1]))
            self.assertLessEqual(after[0], before[0])
            self.assertGreaterEqual(after[1], before[1])

    def test_the_road_of_before_does_not_count(self):
        self.assertEqual(with_ways(with_road(BOOK, 50, 60), ((0, 2, 5),))[1], (2, 3))

    def test_other_values(self):
        way = (0, 2, 5)
        for ways in NO_BOOKS + (way, [way], ([0, 2, 5],), (way, None), (way, way[:2]), (way, way + (1,)), ((),)):
            self.not_usable('ways', with_ways, BOOK, ways)

    def test_one_thing_wrong_in_one_way(self):
        for at in range(3):
            ways = ((0, 2, 5), (1, 3, 6), (2, 2, 2))
            self.assertEqual(with_ways(BOOK, ways)[1], (2, 5))
            for k in range(3):
                for thing in NO_NUMBERS:
                    self.not_usable('ways', with_ways, BOOK, replaced(ways, at, replaced(ways[at], k, thing)))
            self.not_usable('ways', with_ways, BOOK, replaced(ways, at, (0, 3, 2)))
            self.assertEqual(with_ways(BOOK, replaced(ways, at, (0, 3, 3)))[1][0], 2)


if __name__ == '__main__':
    unittest.main()
