import unittest

from pieceswindow.bookchecker import lets_book
from pieceswindow.kinds import is_book
from tests.samples import BOOK, HEARER, NO_BOOKS, NO_NUMBERS, ROAD, SENDER, ErrorChecks, book_with, replaced

WORDS = ('sender', 'road', 'hearer')
PLACES = [(part, k) for part in range(3) for k in range(len(BOOK[part]))]


class TestBookChecker(ErrorChecks, unittest.TestCase):

    def test_examples(self):
        self.assertIs(lets_book(BOOK), True)
        self.invalid_paper('sender', 1, lets_book, ((2, 1, 0, 1, 4, None), (1, 3), HEARER))

    def test_books(self):
        self.assertIs(lets_book(thing=BOOK), True)
        self.assertIs(lets_book(((1, 1, 1, 1, 1, 1), (0, 0), (0, 0, 1, 'newest'))), True)
        self.assertIs(lets_book(((1, 1, 1, 1, 1, None), (0, 0), (0, 0, 1, 'slowest'))), True)
        self.assertIs(lets_book((((10 ** 59,) * 6), (10 ** 59,) * 2, (10 ** 59,) * 3 + ('eldest',))), True)

    def test_shape(self):
        shapes = [SENDER, BOOK[:2], BOOK + (None,), list(BOOK), (ROAD, SENDER, HEARER), (BOOK,), (BOOK, BOOK, BOOK)]
        for part in range(3):
            row = BOOK[part]
            shapes += [replaced(BOOK, part, other) for other in (row[:-1], row + (1,), list(row), (), None, 1, 'x')]
        for thing in NO_BOOKS + tuple(shapes):
            self.invalid_paper('shape', -1, lets_book, thing)

    def test_shape_comes_first(self):
        self.invalid_paper('shape', -1, lets_book, (replaced(SENDER, 0, 0), ROAD, HEARER[:3]))
        self.invalid_paper('shape', -1, lets_book, (replaced(SENDER, 0, 0), ROAD, list(HEARER)))

    def test_each_place_alone(self):
        for part, k in PLACES:
            for thing in NO_NUMBERS:
                one = book_with(part, k, thing)
                if not is_book(one):
                    self.invalid_paper(WORDS[part], k, lets_book, one)
                else:
                    self.assertIn((part, k, thing), ((0, 5, None), (2, 3, 'eldest')))

    def test_just_outside(self):
        for part, k, value in ((0, 0, 0), (0, 1, 1), (0, 2, 0), (0, 3, 0), (0, 4, 0), (0, 5, 1), (1, 0, -1), (1, 1, -1),
                               (2, 0, -1), (2, 1, -1), (2, 2, 0), (2, 3, 'fullest')):
            self.invalid_paper(WORDS[part], k, lets_book, book_with(part, k, value))

    def test_just_within(self):
        for part, k, value in ((0, 0, 1), (0, 1, 2), (0, 2, 1), (0, 3, 1), (0, 4, 1), (0, 5, 2), (1, 0, 0), (1, 1, 0),
                               (2, 0, 0), (2, 1, 0), (2, 2, 1), (2, 3, 'slowest')):
            self.assertIs(lets_book(book_with(part, k, value)), True)

    def test_elements_before_it_decide(self):
        self.invalid_paper('sender', 1, lets_book, book_with(0, 0, 4))
        self.invalid_paper('sender', 5, lets_book, ((3, 3, 2, 1, 4, 2), ROAD, HEARER))
        self.invalid_paper('sender', 0, lets_book, ((0, 0, 2, 1, 4, 0), ROAD, HEARER))

    def test_the_first_of_two_is_told(self):
        for at, (part, k) in enumerate(PLACES):
            for later_part, later_k in PLACES[at + 1:]:
                one = book_with(later_part, later_k, True, book_with(part, k, []))
                self.invalid_paper(WORDS[part], k, lets_book, one)

    def test_all_wrong(self):
        self.invalid_paper('sender', 0, lets_book, ((None,) * 6, (None,) * 2, (None,) * 4))
        self.invalid_paper('road', 0, lets_book, (SENDER, (None,) * 2, (None,) * 4))
        self.invalid_paper('hearer', 0, lets_book, (SENDER, ROAD, (None,) * 4))

    def test_just_as_is_book(self):
        for part, k in PLACES:
            for thing in NO_BOOKS + (2, 3, 'eldest'):
                one = book_with(part, k, thing)
                if is_book(one):
                    self.assertIs(lets_book(one), True)
                else:
                    self.invalid_paper(WORDS[part], k, lets_book, one)


if __name__ == '__main__':
    unittest.main()
