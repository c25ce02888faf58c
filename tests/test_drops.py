import unittest
from itertools import product

from pieceswindow.bookchanges import with_room
from pieceswindow.drops import drops_order, room_by
from pieceswindow.forms import causes_of
from tests.samples import BOOK, NO_BOOKS, ErrorChecks

RULES = ('eldest', 'newest', 'slowest')


def book(a=2, n=2, numbers=9, late=3, wait=3, room=1, drop='eldest'):
    return ((a, a + 1, n, 1, numbers, None), (1, late), (wait, 1, room, drop))


class TestDrops(ErrorChecks, unittest.TestCase):

    def told(self, rooms, one):
        """Checks the rooms by the rules, ascending by their names."""
        self.assertEqual(tuple(room_by(one, drop) for drop in RULES), rooms)
        self.assertEqual(drops_order(one), tuple(sorted(zip(rooms, RULES))))

    def test_examples(self):
        self.assertEqual(room_by(BOOK, 'newest'), 4)
        self.assertEqual(drops_order(BOOK), ((3, 'eldest'), (3, 'slowest'), (4, 'newest')))

    def test_by_name(self):
        self.assertEqual(room_by(drop='newest', book=BOOK), 4)
        self.assertIs(type(drops_order(book=BOOK)), tuple)
        self.assertEqual([type(pair) for pair in drops_order(BOOK)], [tuple] * 3)

    def test_wait_beside_late(self):
        self.told((3, 3, 3), book(late=4, wait=0))
        self.told((4, 4, 4), book(late=4, wait=2))
        self.told((4, 4, 4), book(late=4, wait=3))
        self.told((5, 5, 5), book(late=4, wait=4))
        self.told((5, 5, 5), book(late=4, wait=5))
        self.told((5, 6, 5), book(late=4, wait=6))
        self.told((3, 4, 3), book(late=3, wait=3))
        self.told((3, 3, 3), book(late=3, wait=1))
        self.told((1, 1, 1), book(late=0, wait=0))
        self.told((1, 1, 1), book(late=1, wait=0))

    def test_few_numbers(self):
        self.told((4, 4, 4), book(late=4, wait=6, numbers=4))
        self.told((5, 5, 5), book(late=4, wait=6, numbers=5))
        self.told((5, 6, 5), book(late=4, wait=6, numbers=6))
        self.told((5, 6, 5), book(late=4, wait=6, numbers=7))
        self.told((1, 1, 1), book(late=4, wait=6, numbers=1))

    def test_one_part(self):
        for late, wait, numbers in product((0, 4, 9), (0, 4, 9), (1, 2, 60)):
            self.told((1, 1, 1), book(n=1, late=late, wait=wait, numbers=numbers))
            self.assertEqual(room_by(book(n=3, late=late, wait=wait, numbers=numbers), 'newest'),
                             room_by(book(n=2, late=late, wait=wait, numbers=numbers), 'newest'))

    def test_room_and_rule_of_the_book_do_not_count(self):
        for room, drop in product((1, 2, 3, 60), RULES):
            self.told((3, 4, 3), (BOOK[0], BOOK[1], (4, 1, room, drop)))

    def test_order_is_by_room_first(self):
        self.assertEqual(drops_order(book(late=4, wait=2)), ((4, 'eldest'), (4, 'newest'), (4, 'slowest')))
        self.assertEqual(drops_order(book(late=4, wait=6)), ((5, 'eldest'), (5, 'slowest'), (6, 'newest')))

    def test_least_room_with_which_no_text_is_crowded(self):
        for a, n, numbers, late, wait in product((1, 2, 3), (1, 2), (1, 2, 4, 9), range(6), range(8)):
            for drop in RULES:
                one = book(a, n, numbers, late, wait, drop=drop)
                rooms = [room for room in range(1, 16) if 'crowded' not in causes_of(with_room(one, room))]
                self.assertEqual(room_by(one, drop), rooms[0], one)

    def test_consequences(self):
        for a, n, numbers, late, wait in product((1, 2, 3), (1, 2), (1, 2, 4, 9), range(6), range(8)):
            one = book(a, n, numbers, late, wait)
            eldest, newest, slowest = [room_by(one, drop) for drop in RULES]
            self.assertEqual(eldest, slowest)
            self.assertLessEqual(eldest, newest)
            self.assertLessEqual(newest, numbers)
            if n >= 2 and wait >= late:
                self.assertEqual(eldest, min(2 * (late // a) + 1, numbers))

    def test_no_rules(self):
        for thing in NO_BOOKS + ('Eldest', 'late', 'newest ', ('eldest',), ['newest'], BOOK):
            if thing != 'eldest':
                self.not_usable('drop', room_by, BOOK, thing)
        self.not_usable('drop', room_by, book(n=1), 'fullest')


if __name__ == '__main__':
    unittest.main()
