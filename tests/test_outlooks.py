import inspect
import unittest
from itertools import product

from pieceswindow.alike import same_roads
from pieceswindow.bookclasses import Book
from pieceswindow.forms import can_be, causes_of, crowd_of, harms_that_can, is_harmless
from pieceswindow.harmchecker import lets_harm
from pieceswindow.harmruns import harm_run
from pieceswindow.live import LiveHearer
from pieceswindow.outlooks import Outlook
from tests.models import Draws, any_book
from tests.samples import BOOK, LONGER, NO_BOOKS, NO_NUMBERS, SAFE, ErrorChecks, book_with
from tests.test_forms import book
from tests.test_harmruns import DROPS, HARMS

ALL = book(a=1, copies=2, numbers=2, late=3, wait=1, room=1, pause=1)
TWICE = book(copies=2, memory=2)


def snapshot(one):
    return (one.book_now, one.harms_now, one.causes_now, one.crowd_now, len(one), bool(one), str(one), list(one),
            list(one.papers()), [one[harm] for harm in HARMS])


class TestOutlook(ErrorChecks, unittest.TestCase):

    def told(self, one, form):
        """Checks all that an Outlook tells of a book, and that nothing of it changes."""
        before = snapshot(one)
        harms = harms_that_can(form)
        self.assertEqual((one.book_now, one.harms_now), (form, harms))
        self.assertEqual((one.causes_now, one.crowd_now), (causes_of(form), crowd_of(form)))
        self.assertEqual((len(one), list(one), [each for each in one]), (len(harms), list(harms), list(harms)))
        self.assertIs(bool(one), is_harmless(form))
        self.assertEqual(str(one), ','.join(harms) if harms else '-')
        for harm in HARMS:
            self.assertEqual(one[harm], harm_run(form, harm))
            self.assertIs(harm in one, can_be(form, harm))
        self.assertEqual([harm for harm, _ in one.papers()], list(HARMS))
        for harm, paper in one.papers():
            self.assertIs(lets_harm(form, harm, paper), can_be(form, harm))
        self.assertEqual(one, Outlook(form))
        self.assertEqual(snapshot(one), before)

    def test_examples(self):
        one = Outlook(BOOK)
        found = [str(one), len(one), 'missed' in one, bool(one), list(one), one['joined']]
        self.assertEqual(found, ['missed', 1, True, False, ['missed'], None])
        self.assertEqual(one.with_hearer(wait=5, room=3).harms_now, ('joined', 'missed'))
        found = [one.with_hearer(room=3) == Outlook(SAFE), Outlook(SAFE).lies_in(one), one.lies_in(Outlook(SAFE)),
                 [pair[1][0] for pair in one.papers()]]
        self.assertEqual(found, [True, True, False, ['never', 'run', 'never']])
        self.not_usable('room', one.with_hearer, room=0, drop='fullest')

    def test_none_one_and_several_harms(self):
        for form, text in ((SAFE, '-'), (BOOK, 'missed'), (TWICE, 'twice'), (LONGER, 'joined,missed'),
                           (ALL, 'joined,missed,twice')):
            self.assertEqual(str(Outlook(form)), text)
            self.told(Outlook(form), form)

    def test_any_books(self):
        draws = Draws(71)
        for _ in range(150):
            form = any_book(draws)
            self.told(Outlook(book=form), form)

    def test_kinds_of_results(self):
        one = Outlook(ALL)
        for thing in (one.harms_now, one.causes_now, one.book_now, one['joined']):
            self.assertIs(type(thing), tuple)
        self.assertIs(type(one.crowd_now), int)
        self.assertIs(type(bool(one)), bool)
        self.assertTrue(inspect.isgenerator(one.papers()))
        self.assertEqual({type(pair) for pair in one.papers()}, {tuple})

    def test_no_books(self):
        for thing in NO_BOOKS + (list(BOOK), BOOK[:2], BOOK + ((),), Outlook(BOOK), Book(*BOOK), LiveHearer(BOOK)):
            self.not_usable('book', Outlook, thing)
        self.not_usable('book', Outlook, book_with(0, 0, True))
        self.not_usable('book', Outlook, book_with(0, 1, 1))
        self.not_usable('book', Outlook, book_with(2, 3, 'late'))

    def test_harm(self):
        one = Outlook(ALL)
        for thing in NO_BOOKS + ('late', 'crowded', 'Joined', ('joined',), ['joined'], 0, one, slice(0, 1)):
            self.not_usable('harm', one.__getitem__, thing)
            with self.assertRaises(ValueError):
                one[thing]
            self.assertIs(thing in one, False)

    def test_iteration_twice_at_once(self):
        one = Outlook(ALL)
        self.assertEqual([(x, y) for x in one for y in one], list(product(HARMS, HARMS)))

    def test_papers_one_by_one(self):
        papers = Outlook(ALL).papers()
        self.assertEqual(next(papers)[0], 'joined')
        self.assertEqual([harm for harm, _ in papers], ['missed', 'twice'])
        self.assertIs(next(papers, None), None)

    def test_with_hearer(self):
        one = Outlook(BOOK)
        sender, road, _ = BOOK
        some = product((None, 0, 5, 10 ** 59), (None, 0, 9), (None, 1, 7), (None, 'eldest', 'newest', 'slowest'))
        for values in some:
            hearer = tuple(old if value is None else value for old, value in zip(BOOK[2], values))
            words = dict(zip(('wait', 'memory', 'room', 'drop'), values))
            other = one.with_hearer(**words)
            self.assertIs(type(other), Outlook)
            self.assertEqual(other.book_now, (sender, road, hearer))
            given = {word: value for word, value in words.items() if value is not None}
            self.assertEqual(one.with_hearer(**given), other)
        self.assertEqual(one.with_hearer(), one)
        self.assertIsNot(one.with_hearer(), one)
        self.told(one, BOOK)

    def test_with_hearer_of_any_book(self):
        draws = Draws(72)
        for _ in range(60):
            form, (wait, memory, room, drop) = any_book(draws), any_book(draws)[2]
            self.told(Outlook(form).with_hearer(drop=drop, room=room, memory=memory, wait=wait),
                      form[:2] + ((wait, memory, room, drop),))
            self.told(Outlook(form).with_hearer(memory=memory), form[:2] + ((form[2][0], memory) + form[2][2:],))

    def test_values_that_are_none(self):
        one = Outlook(BOOK)
        for thing in NO_NUMBERS:
            if thing is not None:
                for word in ('wait', 'memory', 'room'):
                    self.not_usable(word, one.with_hearer, **{word: thing})
        self.not_usable('room', one.with_hearer, room=0)
        for thing in NO_BOOKS + ('Eldest', 'late', ['eldest'], ('eldest',), 2):
            if thing is not None and thing != 'eldest':
                self.not_usable('drop', one.with_hearer, drop=thing)
        self.told(one, BOOK)

    def test_the_first_of_several(self):
        one = Outlook(BOOK)
        wrong = {'drop': 'late', 'room': True, 'memory': -1, 'wait': '4'}
        for word in ('wait', 'memory', 'room', 'drop'):
            self.not_usable(word, one.with_hearer, **wrong)
            wrong[word] = None
        self.assertEqual(one.with_hearer(**wrong), one)

    def test_by_name_only(self):
        one = Outlook(BOOK)
        self.assertRaises(TypeError, one.with_hearer, 4)
        self.assertRaises(TypeError, one.with_hearer, most=4)

    def test_lies_in(self):
        forms = (SAFE, BOOK, TWICE, LONGER, ALL)
        for form, other in product(forms, forms):
            told = set(harms_that_can(form)) <= set(harms_that_can(other))
            self.assertIs(Outlook(form).lies_in(Outlook(other)), told)
            self.assertIs(Outlook(form).lies_in(other=Outlook(other)), told)
        for thing in NO_BOOKS + (BOOK, SAFE, Book(*BOOK), LiveHearer(BOOK), Outlook, HARMS):
            self.not_usable('other', Outlook(SAFE).lies_in, thing)

    def test_equal(self):
        one = Outlook(BOOK)
        self.assertIs(one == Outlook(((2, 3, 2, 1, 4, None), (1, 3), (4, 1, 2, 'eldest'))), True)
        self.assertIs(one == one, True)
        for form in (SAFE, LONGER, book_with(1, 0, 2), book_with(0, 1, 4), book_with(0, 5, 8)):
            self.assertIs(one == Outlook(form), False)
            self.assertIs(one != Outlook(form), True)
        for thing in NO_BOOKS + (BOOK, Book(*BOOK), LiveHearer(BOOK), Outlook, ('missed',)):
            self.assertIs(one == thing, False)
            self.assertIs(thing == one, False)

    def test_consequences(self):
        draws = Draws(73)
        alike = 0
        for _ in range(400):
            form, other = any_book(draws), any_book(draws)
            hearer = other[2]
            if same_roads(form, other):
                alike += 1
                found = [Outlook(each).with_hearer(wait=hearer[0], memory=hearer[1], room=hearer[2], drop=hearer[3])
                         for each in (form, other)]
                self.assertEqual(found[0].harms_now, found[1].harms_now)
            one = Outlook(form)
            self.assertIs(bool(one), one.harms_now == ())
            if one:
                self.assertEqual([lets_harm(form, harm, paper) for harm, paper in one.papers()], [False] * 3)
            for room in range(form[2][2], form[2][2] + 4):
                self.assertIs(one.with_hearer(room=room).lies_in(one), True)
        self.assertGreater(alike, 10)

    def test_limits(self):
        for drop in DROPS:
            for wait, memory in ((400, 400), (0, 0)):
                form = ((1, 60, 60, 60, 60, 400), (400, 400), (wait, memory, 60, drop))
                self.told(Outlook(form), form)


if __name__ == '__main__':
    unittest.main()
