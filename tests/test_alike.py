import unittest
from itertools import product

from pieceswindow.alike import are_alike, parting_hearer, same_roads
from pieceswindow.bookparts import reach_of
from pieceswindow.forms import harms_that_can
from pieceswindow.kinds import is_hearer
from tests.samples import BOOK, HEARER, NO_BOOKS, ROAD, SAFE, SENDER, ErrorChecks

SLOW = ((3, 3, 2, 1, 4, None), ROAD, HEARER)


def book(a=2, n=2, copies=1, numbers=4, pause=None, late=3, b=None, d=0, hearer=HEARER):
    return ((a, b or a, n, copies, numbers, pause), (d, late), hearer)


def told_same(one, other):
    """same_roads as the document states it."""
    reaches, lates = (reach_of(one), reach_of(other)), (one[1][1], other[1][1])
    gaps = [max(reach - late, 0) for reach, late in zip(reaches, lates)]
    agains = [late if each[0][3] > 1 else 0 for each, late in zip((one, other), lates)]
    if gaps[0] != gaps[1] or agains[0] != agains[1] or (one[0][2] == 1) != (other[0][2] == 1):
        return False
    if one[0][2] == 1:
        return True
    within = [reach <= 2 * late for reach, late in zip(reaches, lates)]
    if all(within):
        return True
    if any(within) or lates[0] != lates[1]:
        return False
    return all(v // one[0][0] == v // other[0][0] for v in range(2 * lates[0], reaches[0]))


class TestAlike(ErrorChecks, unittest.TestCase):

    def parted(self, one, other):
        """Checks that the hearer of these two parts them, either way round."""
        for first, second in ((one, other), (other, one)):
            hearer = parting_hearer(first, second)
            self.assertIs(is_hearer(hearer), True, (first, second, hearer))
            ahead = harms_that_can((first[0], first[1], hearer))
            behind = harms_that_can((second[0], second[1], hearer))
            self.assertNotEqual(ahead, behind, (first, second, hearer))
            self.assertIs(same_roads(first, second), False)

    def same(self, one, other):
        for first, second in ((one, other), (other, one)):
            self.assertIs(parting_hearer(first, second), None)
            self.assertIs(same_roads(first, second), True)

    def test_examples(self):
        hearer = parting_hearer(BOOK, SLOW)
        found = [are_alike(BOOK, SLOW), same_roads(BOOK, SLOW)]
        self.assertEqual(found, [True, False])
        self.assertIs(are_alike((SENDER, ROAD, hearer), (SLOW[0], ROAD, hearer)), False)
        one, other = ((5, 5, 2, 1, 2, 8), ROAD, HEARER), ((4, 4, 2, 1, 2, 8), ROAD, HEARER)
        self.assertEqual([same_roads(one, other), parting_hearer(BOOK, BOOK)], [True, None])

    def test_are_alike_asks_for_hearers(self):
        self.assertIs(are_alike(BOOK, SAFE), False)
        self.assertIs(same_roads(BOOK, SAFE), True)
        self.assertIs(are_alike(BOOK, BOOK), True)
        self.assertIs(are_alike(SAFE, book(n=1)), True)

    def test_again(self):
        self.parted(book(copies=1), book(copies=2))
        self.parted(book(copies=2, n=1), book(copies=1, n=1))
        self.same(book(copies=2), book(copies=3))
        self.same(book(copies=1, late=0), book(copies=2, late=0))
        # With n 1 late counts by gap and again alone.
        self.same(book(n=1, late=3, numbers=4), book(n=1, late=5, numbers=5))
        self.parted(book(n=1, late=3, numbers=4, copies=2), book(n=1, late=5, numbers=5, copies=2))

    def test_gap(self):
        self.parted(book(n=1, pause=7), book(n=1, pause=6))
        self.parted(book(pause=7), book(pause=6))
        self.parted(book(pause=4), book(pause=3))
        self.same(book(n=1, pause=3), book(n=1, pause=2))
        self.same(book(pause=3), book(pause=2))

    def test_parts(self):
        self.parted(book(n=1), book(n=2))
        self.parted(book(n=1, late=0), book(n=2, late=0))
        self.same(book(n=2), book(n=3))
        self.parted(book(n=1, a=2, numbers=4, late=8), book(n=2, a=2, numbers=4, late=8))
        # The wait is that of the one with several parts, whichever gap is greater.
        self.parted(book(n=1, pause=4), book(n=2))
        self.parted(book(n=1), book(n=2, pause=4))

    def test_reach_beside_late(self):
        # reach 6 is twice late, so no wait that does not join is long enough.
        self.same(book(a=6, numbers=1), book(a=3, numbers=2))
        # gap is 3 for both, and reach is at most twice late for just one.
        self.parted(book(a=6, numbers=1, late=3), book(a=5, numbers=1, late=2))
        # Both are above, and late is not equal.
        self.parted(book(a=7, numbers=1, late=2), book(a=6, numbers=1, late=1))
        self.parted(book(a=7, numbers=1, late=3), book(a=6, numbers=1, late=2))

    def test_paces(self):
        # v from 6 to 7: both have 0 or 1 alike, or one of the two is told.
        self.same(book(a=5, numbers=2, pause=8), book(a=4, numbers=2, pause=8))
        self.parted(book(a=7, numbers=2, pause=8), book(a=8, numbers=1, pause=8))
        self.same(book(a=7, numbers=2, pause=7), book(a=7, numbers=1))
        self.parted(book(a=3, numbers=3, pause=8), book(a=4, numbers=2, pause=8))
        self.parted(book(a=2, numbers=4), book(a=4, numbers=2))
        self.parted(book(a=2, numbers=6), book(a=3, numbers=4))
        self.same(book(a=2, numbers=6, pause=8), book(a=2, numbers=5, pause=8))

    def test_b_and_d_do_not_count(self):
        self.same(book(b=2, d=0), book(b=60, d=400))
        for one, other in ((book(), book(n=1)), (book(), book(a=3)), (book(), book(late=2))):
            sender, road, hearer = other
            moved = ((sender[0], 60) + sender[2:], (77, road[1]), hearer)
            self.parted(one, moved)
            self.assertIs(are_alike(other, moved), True)

    def test_small_books_by_all_hearers(self):
        hearers = list(product(range(9), range(9), (1, 2, 3), ('eldest', 'newest')))
        told = {}
        for a, n, copies, numbers, late, more in product((1, 2, 3), (1, 2), (1, 2), (1, 2, 3), range(4), (None, 1)):
            one = book(a=a, n=n, copies=copies, numbers=numbers, late=late, pause=None if more is None else a + more)
            told[one] = [harms_that_can((one[0], one[1], hearer)) for hearer in hearers]
        books = list(told)
        for k, one in enumerate(books):
            for other in books[k:]:
                same = told[one] == told[other]
                self.assertIs(same_roads(one, other), same, (one, other))
                self.assertIs(told_same(one, other), same, (one, other))
                if not same:
                    hearer = parting_hearer(one, other)
                    self.assertTrue(is_hearer(hearer))
                    ahead = harms_that_can((one[0], one[1], hearer))
                    self.assertNotEqual(ahead, harms_that_can((other[0], other[1], hearer)), (one, other, hearer))

    def test_greater_books_as_stated(self):
        some = product((7, 8, 20, 59, 60), (1, 3, 60), (0, 9, 10, 400), (None, 60, 65))
        books = [book(a=a, numbers=numbers, late=late, pause=pause) for a, numbers, late, pause in some]
        parted = 0
        for one, other in product(books, books):
            self.assertIs(same_roads(one, other), told_same(one, other), (one, other))
            if not told_same(one, other):
                parted += 1
                hearer = parting_hearer(one, other)
                ahead = harms_that_can((one[0], one[1], hearer))
                self.assertNotEqual(ahead, harms_that_can((other[0], other[1], hearer)), (one, other, hearer))
        self.assertLess(parted, len(books) ** 2 - len(books))

    def test_same_roads_have_same_harms(self):
        one, other = book(a=5, numbers=2, pause=8), book(a=4, numbers=2, pause=8)
        for hearer in product((0, 3, 4, 5, 9), (0, 2, 4, 5), (1, 2, 3), ('eldest', 'newest', 'slowest')):
            self.assertIs(are_alike((one[0], one[1], hearer), (other[0], other[1], hearer)), True)

    def test_other_values(self):
        for call in (are_alike, parting_hearer, same_roads):
            for other in NO_BOOKS + (SENDER, list(BOOK), BOOK[:2], BOOK + (None,), (SENDER, ROAD, HEARER[:3])):
                self.not_usable('other', call, BOOK, other)
            self.not_usable('other', call, BOOK, (SENDER, ROAD, (4, True, 2, 'eldest')))

    def test_by_name(self):
        self.assertIs(are_alike(other=SLOW, book=BOOK), True)
        self.assertIs(same_roads(other=SAFE, book=BOOK), True)
        self.assertIs(parting_hearer(other=SAFE, book=BOOK), None)


if __name__ == '__main__':
    unittest.main()
