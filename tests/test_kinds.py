import unittest

from pieceswindow.kinds import is_book, is_cause, is_harm, is_hearer, is_integer, is_number, is_road, is_sender
from tests.samples import BOOK, HEARER, NO_BOOKS, NO_INTEGERS, NO_NUMBERS, ROAD, SENDER, nested, replaced

KINDS = (is_integer, is_number, is_sender, is_road, is_hearer, is_book, is_harm, is_cause)


class TestKinds(unittest.TestCase):

    def good(self, kind, *things):
        for thing in things:
            self.assertIs(kind(thing), True, thing)

    def bad(self, kind, *things):
        for thing in things:
            self.assertIs(kind(thing), False, thing)

    def places(self, kind, row, k, good, bad):
        self.good(kind, *[replaced(row, k, value) for value in good])
        self.bad(kind, *[replaced(row, k, value) for value in bad])

    def test_examples(self):
        self.assertEqual([is_hearer((4, 1, True, 'eldest')), is_harm('late'), is_cause('late')], [False, False, True])

    def test_integers(self):
        self.good(is_integer, 0, 1, -1, 10 ** 59, -10 ** 59)
        self.bad(is_integer, *NO_INTEGERS)

    def test_numbers(self):
        self.good(is_number, 0, 1, 10 ** 59)
        self.bad(is_number, *NO_NUMBERS)

    def test_sender_places(self):
        self.good(is_sender, SENDER, (1, 1, 1, 1, 1, None), (1, 1, 1, 1, 1, 1), (10 ** 59,) * 6)
        self.places(is_sender, SENDER, 0, (1, 2, 3), (0, 4) + NO_NUMBERS)
        self.places(is_sender, SENDER, 1, (2, 3, 10 ** 59), (0, 1) + NO_NUMBERS)
        for k in (2, 3, 4):
            self.places(is_sender, SENDER, k, (1, 2, 10 ** 59), (0,) + NO_NUMBERS)
        no_pause = [thing for thing in NO_NUMBERS if thing is not None]
        self.places(is_sender, SENDER, 5, (None, 2, 3, 10 ** 59), [0, 1] + no_pause)

    def test_bools_are_no_paces(self):
        self.bad(is_sender, (True, 1, 1, 1, 1, None), (1, True, 1, 1, 1, None), (1, 1, 1, 1, 1, True))

    def test_a_beside_pause(self):
        self.good(is_sender, (5, 9, 1, 1, 1, 5), (5, 9, 1, 1, 1, 8), (5, 5, 1, 1, 1, 9))
        self.bad(is_sender, (5, 9, 1, 1, 1, 4), (5, 4, 1, 1, 1, 5))

    def test_road_places(self):
        self.good(is_road, (0, 0), ROAD)
        for k in (0, 1):
            self.places(is_road, ROAD, k, (0, 1, 10 ** 59), NO_NUMBERS)

    def test_hearer_places(self):
        self.good(is_hearer, HEARER, (0, 0, 1, 'newest'), (0, 0, 1, 'slowest'))
        for k in (0, 1):
            self.places(is_hearer, HEARER, k, (0, 1, 10 ** 59), NO_NUMBERS)
        self.places(is_hearer, HEARER, 2, (1, 2, 10 ** 59), (0,) + NO_NUMBERS)
        words = ('', 'Eldest', 'eldest ', 'elde', 'fullest', 'late', 0, None, True, ('eldest',), ['eldest'], [])
        self.places(is_hearer, HEARER, 3, ('eldest', 'newest', 'slowest'), words)

    def test_other_sizes_and_lists(self):
        for kind, row in ((is_sender, SENDER), (is_road, ROAD), (is_hearer, HEARER), (is_book, BOOK)):
            self.bad(kind, row[:-1], row + (row[-1],), row[1:], list(row), (), [], (row,))
            self.bad(kind, *NO_BOOKS)

    def test_one_kind_is_not_another(self):
        rows = ((is_sender, SENDER), (is_road, ROAD), (is_hearer, HEARER), (is_book, BOOK))
        for kind, row in rows:
            for other, _ in rows:
                self.assertIs(other(row), other == kind)

    def test_book(self):
        self.good(is_book, BOOK)
        for part in range(3):
            self.bad(is_book, replaced(BOOK, part, list(BOOK[part])), replaced(BOOK, part, BOOK[part][:-1]))
            self.bad(is_book, *[replaced(BOOK, part, thing) for thing in NO_BOOKS])
            for k in range(len(BOOK[part])):
                self.bad(is_book, replaced(BOOK, part, replaced(BOOK[part], k, True)))
                self.bad(is_book, replaced(BOOK, part, replaced(BOOK[part], k, -1)))

    def test_words(self):
        self.good(is_harm, 'joined', 'twice', 'missed')
        self.bad(is_harm, 'swallowed', 'late', 'crowded', 'Joined', 'joined ', 'join', ('joined',), ['joined'])
        self.good(is_cause, 'swallowed', 'late', 'crowded', 'joined')
        self.bad(is_cause, 'twice', 'missed', 'Late', ' late', 'crowd', ('late',), ['late'])
        self.bad(is_harm, *NO_BOOKS)
        self.bad(is_cause, *NO_BOOKS)

    def test_any_value_is_looked_at(self):
        for kind in KINDS:
            for thing in NO_BOOKS + (nested(29), [nested(29)] * 100, [SENDER], [BOOK]):
                self.assertIn(kind(thing), (True, False))

    def test_by_name(self):
        for kind in KINDS:
            self.assertIs(kind(thing=None), False)


if __name__ == '__main__':
    unittest.main()
