import unittest

from pieceswindow.bookclasses import Book
from pieceswindow.errors import InvalidPaper
from pieceswindow.harms import harms_of, missed_texts
from pieceswindow.hearing import fates_of, open_of, remembered_of, showings_of
from pieceswindow.live import LiveHearer
from pieceswindow.outlooks import Outlook
from pieceswindow.runchanges import joined_runs, shifted, without_arrival
from pieceswindow.runchecker import lets_run
from pieceswindow.runclasses import Run
from tests.models import Draws, any_book, any_run
from tests.samples import BOOK, LONGER, NO_BOOKS, NO_INTEGERS, NO_NUMBERS, SAFE, ErrorChecks
from tests.test_harms import LONG, PAIRED
from tests.test_live import book
from tests.test_runchecker import RUN

OBJECTS = (LiveHearer(BOOK), Outlook(BOOK), Book(*BOOK), Run(BOOK, *RUN), Run)


class RunChecks(ErrorChecks):

    def told(self, one, form, run):
        """Checks all that a Run tells of a run."""
        begins, arrivals = run
        self.assertIs(type(one), Run)
        self.assertEqual((one.book_now, one.begins_now, one.arrivals_now, one.run_now), (form, begins, arrivals, run))
        self.assertEqual(one.showings_now, showings_of(form, run))
        self.assertEqual((one.harms_now, one.missed_now), (harms_of(form, run), missed_texts(form, run)))
        self.assertEqual(len(one), len(arrivals))
        self.assertEqual(tuple(one[k] for k in range(len(arrivals))), fates_of(form, run))
        self.assertIs(bool(one), harms_of(form, run) == ())
        self.assertTrue(all(arrival in one for arrival in arrivals))
        self.assertEqual(one, Run(form, begins, arrivals))
        self.assertEqual(one, Run.of(form, run))


class TestRun(RunChecks, unittest.TestCase):

    def test_examples(self):
        one = Run.of(BOOK, RUN)
        found = [len(one), one[3], (4, 0, 0) in one, bool(one), (one - 2).harms_now]
        self.assertEqual(found, [5, ('opens', 3, False), True, False, ()])
        self.assertEqual(one.then(Run(BOOK, ((7, 2),), ())).missed_now, (1,))
        self.invalid_paper('copy', 5, one.__add__, (6, 2, 1))
        with self.assertRaises(InvalidPaper):
            one + (6, 2, 1)

    def test_what_it_tells(self):
        for form, run in ((BOOK, RUN), (BOOK, PAIRED), (LONG, PAIRED), (SAFE, RUN), (BOOK, ((), ())),
                          (BOOK, (((-7, 3),), ())), (BOOK, (((-7, 3),), ((-6, 0, 1), (-6, 0, 0))))):
            self.told(Run(form, *run), form, run)
        self.told(Run(arrivals=RUN[1], begins=RUN[0], book=BOOK), BOOK, RUN)
        self.told(Run.of(run=RUN, book=BOOK), BOOK, RUN)
        self.assertIs(bool(Run(SAFE, *RUN)), True)
        self.assertIs(bool(Run(LONG, *PAIRED)), False)
        self.assertIs(bool(Run(BOOK, (), ())), True)

    def test_any_runs(self):
        draws = Draws(111)
        for _ in range(150):
            form = any_book(draws)
            run = any_run(draws, form, lost=8)
            self.told(Run(form, *run), form, run)

    def test_errors_of_runs(self):
        for begins, arrivals in ((RUN[0], None), (None, RUN[1]), (list(RUN[0]), RUN[1]), (RUN[0], list(RUN[1])),
                                 ('', ()), ((), 0)):
            self.invalid_paper('shape', -1, Run, BOOK, begins, arrivals)
            self.invalid_paper('shape', -1, Run.of, BOOK, (begins, arrivals))
        for thing in (None, True, 7, 'run', [], {}) + OBJECTS:
            self.invalid_paper('shape', -1, Run, BOOK, thing, ())
            self.invalid_paper('shape', -1, Run, BOOK, (), thing)
            self.invalid_paper('shape', -1, Run.of, BOOK, thing)
        for thing in NO_BOOKS + (RUN[0], RUN[:1], RUN + ((),), list(RUN)):
            self.invalid_paper('shape', -1, Run.of, BOOK, thing)
        wrong = (('begin', 1, ((0, 0), (2, True)), ()), ('pace', 1, ((0, 0), (4, 1)), ()),
                 ('number', 1, ((0, 0), (2, 2)), ()), ('arrival', 0, ((0, 0),), ((1, 0, 2),)),
                 ('arrival', 0, ((0, 0),), ((1, False, 0),)), ('span', 0, ((0, 0),), ((5, 0, 0),)),
                 ('order', 1, ((0, 0),), ((2, 0, 0), (1, 0, 1))), ('copy', 1, ((0, 0),), ((1, 0, 0), (1, 0, 0))))
        for word, at, begins, arrivals in wrong:
            self.invalid_paper(word, at, Run, BOOK, begins, arrivals)
            self.invalid_paper(word, at, Run.of, BOOK, (begins, arrivals))

    def test_index(self):
        one = Run.of(BOOK, RUN)
        for thing in NO_NUMBERS + (5, 6, 10 ** 59, (0,), slice(0, 2)) + OBJECTS:
            self.not_usable('k', one.__getitem__, thing)
        with self.assertRaises(ValueError):
            one[-1]
        self.not_usable('k', Run(BOOK, (), ()).__getitem__, 0)

    def test_in(self):
        one = Run.of(BOOK, RUN)
        for thing in NO_BOOKS + OBJECTS + ((4, 0), (4, 0, 1), (4, 0, 0, 0), [4, 0, 0], (4, False, 0), (4, 0, False),
                                           (3, True, 0), (5, True, True), (5, 1, True), RUN[0], RUN[1], 3, 0, RUN,
                                           (4, 0, 9), (4, -3, 0), ([4], 0, 0)):
            self.assertIs(thing in one, False, thing)
        for thing in RUN[1]:
            self.assertIs(thing in one, True)
        early = Run(book(d=0), ((0, 0),), ((1, 0, 0),))
        self.assertEqual([thing in early for thing in ((1, 0, 0), (True, 0, 0), (1, 0, False))], [True, False, False])

    def test_no_iteration(self):
        one = Run.of(BOOK, RUN)
        self.assertRaises(TypeError, iter, one)
        self.assertRaises(TypeError, list, one)

    def test_equal(self):
        one = Run.of(BOOK, RUN)
        self.assertIs(one == Run(BOOK, *RUN), True)
        self.assertIs(one != Run(BOOK, *RUN), False)
        for other in (Run(SAFE, *RUN), one - 4, one.later(1), Run(BOOK, RUN[0], ()), Run(BOOK, (), ()),
                      Run(BOOK, RUN[0] + ((6, 2),), RUN[1])):
            self.assertIs(one == other, False)
            self.assertIs(one != other, True)
        for thing in NO_BOOKS + OBJECTS[:3] + (Run, RUN, (BOOK, RUN), fates_of(BOOK, RUN)):
            self.assertIs(one == thing, False)
            self.assertIs(thing == one, False)


class TestRunChanges(RunChecks, unittest.TestCase):

    def test_add(self):
        one = Run(BOOK, RUN[0], ())
        for k, arrival in enumerate(RUN[1]):
            one = one + arrival
            self.told(one, BOOK, (RUN[0], RUN[1][:k + 1]))
        for thing in NO_BOOKS + OBJECTS + ((7, 0, 0, 0), (7, 0), [7, 0, 1], (7, 3, 0), (7, True, 0), (7, 0, 2)):
            self.invalid_paper('arrival', 5, one.__add__, thing)
        self.invalid_paper('span', 5, one.__add__, (9, 2, 0))
        self.invalid_paper('order', 5, one.__add__, (4, 0, 1))
        self.invalid_paper('copy', 5, one.__add__, (6, 2, 1))
        self.told(one, BOOK, RUN)

    def test_subtract(self):
        one = Run.of(BOOK, RUN)
        for k in range(5):
            self.told(one - k, BOOK, without_arrival(BOOK, RUN, k))
        for thing in NO_NUMBERS + (5, 10 ** 59) + OBJECTS:
            self.not_usable('k', one.__sub__, thing)
        with self.assertRaises(ValueError):
            one - True
        self.told(one, BOOK, RUN)

    def test_later(self):
        one = Run.of(BOOK, RUN)
        for by in (-4, 0, 1, 10 ** 59):
            self.told(one.later(by), BOOK, shifted(BOOK, RUN, by))
            self.assertEqual(one.later(by=by).later(-by), one)
        for thing in NO_INTEGERS + OBJECTS:
            self.not_usable('by', one.later, thing)
        self.told(one, BOOK, RUN)

    def test_then(self):
        one = Run.of(BOOK, RUN)
        late = (((6, 2), (9, 3)), ((7, 0, 1), (9, 0, 0), (10, 1, 0)))
        self.told(one.then(Run(BOOK, *late)), BOOK, joined_runs(BOOK, RUN, late))
        self.told(one.then(late=Run(BOOK, *late)), BOOK, joined_runs(BOOK, RUN, late))
        self.told(one.then(Run(BOOK, (), ())), BOOK, RUN)
        self.told(Run(BOOK, (), ()).then(one), BOOK, RUN)
        for other in (Run(SAFE, *late), Run(LONGER, *late), Run(book(copies=2), *late)):
            self.not_usable('late', one.then, other)
        for other in (one, Run(BOOK, ((5, 2),), ()), Run(BOOK, ((6, 3),), ()), Run(BOOK, ((8, 2),), ())):
            self.not_usable('late', one.then, other)
        for thing in NO_BOOKS + OBJECTS[:3] + (Run, late, RUN, (BOOK, late)):
            self.not_usable('late', one.then, thing)
        self.told(one, BOOK, RUN)

    def test_consequences(self):
        draws = Draws(112)
        for _ in range(60):
            form = any_book(draws)
            begins, arrivals = any_run(draws, form, most=5)
            whole = Run(form, begins, arrivals)
            self.assertEqual(whole.later(77).later(-77), whole)
            one = Run(form, begins, ())
            for k, arrival in enumerate(arrivals):
                one = one + arrival
                self.assertEqual(one, Run(form, begins, arrivals[:k + 1]))
                self.assertEqual(one[k], whole[k])
                self.assertEqual(one.showings_now, whole.showings_now[:len(one.showings_now)])
            self.assertEqual(one, whole)
            self.assertEqual(open_of(form, one.run_now), open_of(form, (begins, arrivals)))
            self.assertEqual(remembered_of(form, one.run_now), remembered_of(form, (begins, arrivals)))
            for k in reversed(range(len(arrivals))):
                one = one - k
                self.assertEqual(one.run_now, (begins, arrivals[:k]))

    def test_many_arrivals(self):
        begins = tuple((2 * k, k % 4) for k in range(40))
        arrivals = tuple((2 * k + 1 + part, k, part) for k in range(40) for part in range(2))
        one = Run(SAFE, begins, arrivals)
        self.assertEqual((len(one), lets_run(SAFE, one.run_now), bool(one)), (80, (40, 80), True))
        self.assertEqual(len(one.then(one.later(80))), 160)


if __name__ == '__main__':
    unittest.main()
