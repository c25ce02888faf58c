import unittest

from pieceswindow import errors
from pieceswindow.bookclasses import Book, Plain
from pieceswindow.kinds import is_book
from tests.samples import BOOK, HEARER, NO_BOOKS, NO_NUMBERS, ROAD, SENDER, ErrorChecks, book_with, replaced

WORDS = ('a', 'b', 'n', 'copies', 'numbers', 'pause', 'd', 'late', 'wait', 'memory', 'room', 'drop')
APART = ((11, 12, 13, 14, 15, 16), (17, 18), (19, 20, 21, 'slowest'))
PLACES = [(part, k) for part in range(3) for k in range(len(BOOK[part]))]
PARTS = ('sender', 'road', 'hearer')


class Other(Book):
    """A derived class with parameters of its own."""

    def __init__(self):
        Book.__init__(self, *BOOK)


# Values of the package's own, which stand where any values do.
OBJECTS = (Book(*BOOK), Plain(2, 3, 1), Other(), errors.NotUsable('a', -1), Book, errors.NotUsable)


class TestBook(ErrorChecks, unittest.TestCase):

    def setUp(self):
        self.one = Book(SENDER, ROAD, HEARER)

    def book_itself(self, thing, form):
        """Checks that it is an object of the class Book itself, with this form."""
        self.assertIs(type(thing), Book)
        self.assertEqual(thing.form, form)
        self.assertEqual(self.one.form, BOOK)

    def test_examples(self):
        one = self.one
        found = [one['late'], one.reach, 3 in one, True in one, one(3), (one * 2).reach]
        self.assertEqual(found, [3, 8, True, False, 0, 16])
        self.assertEqual(one.but(wait=5, drop='newest').hearer, (5, 1, 2, 'newest'))
        self.assertEqual((one | Book.of(a=9, d=5, late=2)).road, (1, 6))
        self.assertIs(Plain(2, 3, 1) == Book.of(a=2, late=3, n=1), True)
        self.assertEqual(Plain(2, 3, 1).form[2], (0, 0, 1, 'eldest'))
        self.invalid_paper('sender', 1, one.but, b=1)

    def test_properties(self):
        one = Book(hearer=APART[2], sender=APART[0], road=APART[1])
        self.assertEqual((one.sender, one.road, one.hearer), APART)
        self.assertEqual(one.form, APART)
        self.assertIs(type(one.form), tuple)
        self.assertEqual(one.reach, 16)
        self.assertEqual(self.one.reach, 8)

    def test_errors_of_the_checker(self):
        for part, k in PLACES:
            for thing in NO_BOOKS + OBJECTS:
                form = book_with(part, k, thing)
                if is_book(form):
                    self.assertEqual(Book(*form).form, form)
                else:
                    self.invalid_paper(PARTS[part], k, Book, *form)
        for part in range(3):
            for thing in NO_BOOKS + OBJECTS + (BOOK[part][:-1], list(BOOK[part])):
                self.invalid_paper('shape', -1, Book, *replaced(BOOK, part, thing))
        self.invalid_paper('sender', 1, Book, (2, 1, 0, 1, 4, None), (1, 3), HEARER)

    def test_keys(self):
        one = Book(*APART)
        self.assertEqual([one[word] for word in WORDS], list(range(11, 19)) + [19, 20, 21, 'slowest'])
        self.assertIs(self.one['pause'], None)
        self.assertEqual([self.one[word] for word in WORDS], [2, 3, 2, 1, 4, None, 1, 3, 4, 1, 2, 'eldest'])

    def test_keys_that_are_none(self):
        others = ('A', 'a ', 'sender', 'road', 'hearer', 'form', 'reach', 'self', ('a',), ['a'], slice(0, 2), 0, -1)
        for key in NO_BOOKS + OBJECTS + others:
            self.not_usable('key', self.one.__getitem__, key)
            with self.assertRaises(errors.NotUsable):
                self.one[key]

    def test_numbers_in_it(self):
        self.assertEqual([m in self.one for m in (0, 1, 2, 3, 4, 5, 10 ** 59)], [True] * 4 + [False] * 3)
        for m in NO_BOOKS + OBJECTS:
            if not (type(m) is int and m in (0, 1)):
                self.assertIs(m in self.one, False, m)
                self.assertIs(m not in self.one, True, m)
        self.assertIs(0 in Book.of(1, 1), True)
        self.assertIs(1 in Book.of(1, 1), False)
        self.assertIs([] in self.one, False)

    def test_next_number(self):
        self.assertEqual([self.one(m) for m in range(4)], [1, 2, 3, 0])
        self.assertEqual(self.one(m=1), 2)
        for m in NO_NUMBERS + OBJECTS + (4, 10 ** 59):
            self.not_usable('m', self.one, m)

    def test_text(self):
        self.assertEqual(str(self.one), 'sender 2 3 2 1 4 -\nroad 1 3\nhearer 4 1 2 eldest')
        self.assertEqual(f'{Book(*APART)}', 'sender 11 12 13 14 15 16\nroad 17 18\nhearer 19 20 21 slowest')
        self.assertEqual(str(self.one * 10 ** 59 * 10 ** 59).split(' ')[5], '4' + '0' * 118)

    def test_no_iteration(self):
        for one in (self.one, Plain(2, 3, 1)):
            for call in (iter, list, tuple, sorted, set, enumerate):
                with self.assertRaises(TypeError):
                    call(one)
            with self.assertRaises(TypeError):
                for _ in one:
                    self.fail()

    def test_equal(self):
        one = self.one
        self.assertIs(one == Book(*BOOK), True)
        self.assertIs(one != Book(*BOOK), False)
        self.assertIs(one == Other(), True)
        self.assertIs(Other() == one, True)
        self.assertIs(Other() != one, False)
        plain, same = Plain(2, 3, 1), Book((2, 2, 1, 1, 1, None), (0, 3), (0, 0, 1, 'eldest'))
        self.assertIs(plain == same, True)
        self.assertIs(same == plain, True)
        self.assertIs(plain != same, False)
        self.assertIs(plain == Plain(2, 3, 2), False)
        self.assertIs(plain != one, True)

    def test_equal_in_each_place(self):
        for word in WORDS:
            value = {'a': 10, 'drop': 'newest'}.get(word, 30)
            other = Book(*APART).but(**{word: value})
            self.assertIs(other == Book(*APART), False, word)
            self.assertIs(other != Book(*APART), True, word)

    def test_not_equal_to_other_values(self):
        for thing in NO_BOOKS + (BOOK, list(BOOK), str(self.one), errors.NotUsable('a', -1), Book):
            self.assertIs(self.one == thing, False)
            self.assertIs(thing == self.one, False)
            self.assertIs(self.one != thing, True)

    def test_mark(self):
        self.book_itself(self.one * 1, BOOK)
        self.book_itself(self.one * 3, book_with(0, 4, 12))
        self.book_itself(Other() * 2, book_with(0, 4, 8))
        self.book_itself(Plain(2, 3, 1) * 2, ((2, 2, 1, 1, 2, None), (0, 3), (0, 0, 1, 'eldest')))
        self.assertEqual(self.one * 2 * 3, self.one * 6)
        for e in NO_NUMBERS + OBJECTS + (0,):
            self.not_usable('e', self.one.__mul__, e)
            with self.assertRaises(errors.NotUsable):
                self.one * e

    def test_hearer(self):
        self.book_itself(self.one % (9, 8, 7, 'slowest'), (SENDER, ROAD, (9, 8, 7, 'slowest')))
        self.book_itself(Other() % (0, 0, 1, 'newest'), (SENDER, ROAD, (0, 0, 1, 'newest')))
        self.book_itself(Plain(2, 3, 1) % HEARER, ((2, 2, 1, 1, 1, None), (0, 3), HEARER))
        bad = [replaced(HEARER, k, thing) for k in range(4) for thing in (True, None, -1, [])]
        bad += [HEARER[:3], HEARER + (1,), list(HEARER), (4, 1, 0, 'eldest'), BOOK]
        for hearer in NO_BOOKS + OBJECTS + tuple(bad):
            self.not_usable('hearer', self.one.__mod__, hearer)
            with self.assertRaises(errors.NotUsable):
                self.one % hearer

    def test_roads(self):
        def over(d, late):
            return Book.of(a=9, d=d, late=late, wait=77, numbers=3)
        # The road of one is from 1 to 4.
        self.book_itself(self.one | over(5, 2), (SENDER, (1, 6), HEARER))
        self.book_itself(self.one | over(4, 2), (SENDER, (1, 5), HEARER))
        self.book_itself(self.one | over(0, 0), (SENDER, (0, 4), HEARER))
        self.book_itself(self.one | over(2, 1), BOOK)
        self.book_itself(self.one | over(0, 9), (SENDER, (0, 9), HEARER))
        self.book_itself(self.one | self.one, BOOK)
        self.not_usable('other', self.one.__or__, over(6, 2))
        self.not_usable('other', over(6, 2).__or__, self.one)
        self.assertEqual((over(5, 2) | self.one).form, ((9, 9, 2, 1, 3, None), (1, 6), (77, 0, 1, 'eldest')))

    def test_roads_of_derived_classes(self):
        self.book_itself(self.one | Plain(2, 3, 1), (SENDER, (0, 4), HEARER))
        self.book_itself(Other() | self.one, BOOK)
        self.book_itself(Plain(2, 3, 1) | self.one, ((2, 2, 1, 1, 1, None), (0, 4), (0, 0, 1, 'eldest')))
        self.book_itself(self.one | Other(), BOOK)

    def test_roads_of_other_values(self):
        for other in NO_BOOKS + (BOOK, ROAD, (1, 3), Book, errors.NotUsable('a', -1)):
            self.not_usable('other', self.one.__or__, other)
            with self.assertRaises(errors.NotUsable):
                self.one | other

    def test_but(self):
        self.book_itself(self.one.but(), BOOK)
        self.assertIsNot(self.one.but(), self.one)
        for word, (part, k) in zip(WORDS, PLACES):
            value = {'a': 10, 'drop': 'newest'}.get(word, 30)
            self.assertEqual(Book(*APART).but(**{word: value}).form, book_with(part, k, value, APART))
        self.book_itself(self.one.but(a=5, b=6, pause=7), ((5, 6, 2, 1, 4, 7), ROAD, HEARER))
        self.book_itself(self.one.but(room=9, d=0, n=1), ((2, 3, 1, 1, 4, None), (0, 3), (4, 1, 9, 'eldest')))
        self.book_itself(Other().but(n=1), book_with(0, 2, 1))
        self.book_itself(Plain(2, 3, 1).but(late=0), ((2, 2, 1, 1, 1, None), (0, 0), (0, 0, 1, 'eldest')))
        self.assertIs(Book(*APART).but(pause=None)['pause'], None)
        self.book_itself(self.one.but(**dict(zip(WORDS, APART[0] + APART[1] + APART[2]))), APART)

    def test_but_with_other_names(self):
        for name in ('A', 'sender', 'road', 'hearer', 'book', 'other', 'e', 'key', 'more', 'form', 'word', '', 'a '):
            self.not_usable('more', self.one.but, **{name: 1})
            self.not_usable('more', self.one.but, **{'a': 0, name: 1})
            self.not_usable('more', self.one.but, **{name: 1, 'b': True})

    def test_but_with_other_values(self):
        for word, (part, k) in zip(WORDS, PLACES):
            for thing in (True, -1, [], (), 'fullest', self.one):
                self.invalid_paper(PARTS[part], k, self.one.but, **{word: thing})
        self.invalid_paper('sender', 1, self.one.but, a=4)
        self.invalid_paper('sender', 0, self.one.but, drop=None, a=0)
        self.invalid_paper('road', 1, self.one.but, drop=None, late=None)

    def test_read(self):
        self.book_itself(Book.read('sender 2 3 2 1 4 -\nroad 1 3\nhearer 4 1 2 eldest'), BOOK)
        self.book_itself(Book.read(text=str(Book(*APART))), APART)
        self.book_itself(Book.read(str(Plain(2, 3, 1))), Plain(2, 3, 1).form)
        self.invalid_text(0, 6, Book.read, 'sender 2 3 2 1 4 1\nroad 1')
        self.invalid_text(0, 0, Book.read, '')
        for thing in (None, 3, True, [], ('a',), self.one, BOOK):
            self.not_usable('text', Book.read, thing)

    def test_of(self):
        self.book_itself(Book.of(2, 3), ((2, 2, 2, 1, 1, None), (0, 3), (0, 0, 1, 'eldest')))
        self.book_itself(Book.of(late=0, a=1), ((1, 1, 2, 1, 1, None), (0, 0), (0, 0, 1, 'eldest')))
        self.book_itself(Book.of(2, 3, b=None), Book.of(2, 3).form)
        values = dict(zip(WORDS, APART[0] + APART[1] + APART[2]))
        self.book_itself(Book.of(**values), APART)
        for word, (part, k) in zip(WORDS, PLACES):
            if word not in ('a', 'late'):
                value = 'newest' if word == 'drop' else 30
                self.book_itself(Book.of(2, 3, **{word: value}), book_with(part, k, value, Book.of(2, 3).form))

    def test_of_other_values(self):
        self.invalid_paper('sender', 1, Book.of, 3, 3, b=2)
        self.invalid_paper('sender', 0, Book.of, 0, -1)
        self.invalid_paper('road', 1, Book.of, 1, -1, room=0)
        self.invalid_paper('sender', 0, Book.of, None, 0)
        self.invalid_paper('sender', 0, Book.of, True, 0)
        self.invalid_paper('sender', 0, Book.of, self.one, 0)
        self.invalid_paper('sender', 1, Book.of, 1, 0, b=True)
        for word, (part, k) in zip(WORDS, PLACES):
            if word not in ('a', 'late'):
                for thing in (True, -1, [], 'fullest', self.one):
                    self.invalid_paper(PARTS[part], k, Book.of, 1, 1, **{word: thing})
        with self.assertRaises(TypeError):
            Book.of(1, 1, 2)

    def test_a_book_never_changes(self):
        one = self.one
        for name in ('sender', 'road', 'hearer', 'form', 'reach'):
            with self.assertRaises(AttributeError):
                setattr(one, name, 1)
        with self.assertRaises(TypeError):
            one['a'] = 1
        same = one
        same *= 2
        self.assertEqual(same.reach, 16)
        same = one
        same |= Book.of(9, 2, d=5)
        same = one
        same %= (0, 0, 1, 'newest')
        for call in (lambda: one * 0, lambda: one % 1, lambda: one | 1, lambda: one['x'], lambda: one(9),
                     lambda: one.but(a=0), lambda: one.but(x=0)):
            with self.assertRaises(errors.PieceError):
                call()
        self.assertEqual(one.form, BOOK)
        self.assertEqual(str(one), str(Book(*BOOK)))

    def test_defined_in_the_class_itself(self):
        for name in ('__init__', 'sender', 'road', 'hearer', 'form', 'reach', '__getitem__', '__contains__', '__call__',
                     '__str__', '__eq__', '__mul__', '__mod__', '__or__', 'but', 'read', 'of'):
            self.assertIn(name, vars(Book))
        for name in ('sender', 'road', 'hearer', 'form', 'reach'):
            self.assertIsInstance(vars(Book)[name], property)
        self.assertIsInstance(vars(Book)['read'], classmethod)
        self.assertIsInstance(vars(Book)['of'], staticmethod)
        self.assertIsInstance(vars(Plain)['given'], property)
        self.assertIn('__init__', vars(Plain))


class TestPlain(ErrorChecks, unittest.TestCase):

    def test_form(self):
        self.assertEqual(Plain.__bases__, (Book,))
        self.assertEqual(Plain(5, 7, 3).form, ((5, 5, 3, 1, 1, None), (0, 7), (0, 0, 1, 'eldest')))
        self.assertEqual(Plain(n=3, a=5, late=7).form, Plain(5, 7, 3).form)
        self.assertEqual(Plain(5, 7, 3).reach, 5)
        self.assertEqual(Plain(5, 7, 3)['late'], 7)

    def test_given(self):
        self.assertEqual(Plain(5, 7, 3).given, (5, 7, 3))
        self.assertIs(type(Plain(5, 7, 3).given), tuple)
        with self.assertRaises(AttributeError):
            Plain(5, 7, 3).given = (1, 1, 1)

    def test_errors(self):
        for thing in NO_NUMBERS + OBJECTS:
            self.invalid_paper('sender', 0, Plain, thing, 7, 3)
            self.invalid_paper('road', 1, Plain, 5, thing, 3)
            self.invalid_paper('sender', 2, Plain, 5, 7, thing)
            self.invalid_paper('sender', 0, Plain, thing, thing, thing)
        self.invalid_paper('sender', 0, Plain, 0, 0, 0)
        self.invalid_paper('sender', 2, Plain, 1, -1, 0)
        self.assertEqual(Plain(1, 0, 1).given, (1, 0, 1))

    def test_results_are_books(self):
        plain = Plain(5, 7, 3)
        for one in (plain * 1, plain % plain.hearer, plain | plain, plain.but()):
            self.assertIs(type(one), Book)
            self.assertIs(one == plain, True)


if __name__ == '__main__':
    unittest.main()
