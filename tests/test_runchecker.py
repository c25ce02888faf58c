import unittest

from pieceswindow.live import LiveHearer
from pieceswindow.runchecker import lets_run
from tests.models import Draws, any_book, any_run
from tests.samples import BOOK, NO_BOOKS, NO_INTEGERS, NO_NUMBERS, ErrorChecks, nested, replaced
from tests.test_live import book

RUN = (((0, 3), (2, 0), (4, 1)), ((3, 1, 0), (4, 0, 0), (5, 2, 0), (5, 1, 1), (6, 2, 1)))


class TestRunChecker(ErrorChecks, unittest.TestCase):

    def begin_with(self, k, *begin):
        return (replaced(RUN[0], k, tuple(begin)), RUN[1])

    def arrival_with(self, k, *arrival):
        return (RUN[0], replaced(RUN[1], k, tuple(arrival)))

    def test_examples(self):
        self.assertEqual(lets_run(BOOK, RUN), (3, 5))
        self.invalid_paper('pace', 1, lets_run, BOOK, (((0, 0), (4, 1)), ()))

    def test_runs(self):
        self.assertEqual(lets_run(thing=RUN, book=BOOK), (3, 5))
        self.assertIs(type(lets_run(BOOK, RUN)), tuple)
        self.assertEqual(lets_run(BOOK, ((), ())), (0, 0))
        self.assertEqual(lets_run(BOOK, (((-10000, 3),), ())), (1, 0))
        self.assertEqual(lets_run(BOOK, (((-5, 3),), ((-4, 0, 1),))), (1, 1))

    def test_many_texts_and_arrivals(self):
        begins = tuple((2 * k, k % 4) for k in range(40))
        arrivals = tuple((2 * k + 1 + part, k, part) for k in range(40) for part in range(2))
        self.assertEqual(lets_run(BOOK, (begins, arrivals)), (40, 80))
        arrivals = tuple((500, text, part) for _ in range(3) for text in range(40) for part in range(2))
        one = book(copies=3, d=400, late=400)
        self.assertEqual(lets_run(one, (begins, arrivals)), (40, 240))
        self.invalid_paper('copy', 240, lets_run, one, (begins, arrivals + ((500, 39, 1),)))

    def test_shape(self):
        shapes = (RUN[0], RUN[:1], RUN + ((),), list(RUN), (list(RUN[0]), RUN[1]), (RUN[0], list(RUN[1])), ((), None),
                  (None, ()), ((), 0), ('', ()), ((), ''), ([], []), (RUN,), (RUN, RUN, RUN), LiveHearer(BOOK), BOOK)
        for thing in NO_BOOKS + shapes:
            self.invalid_paper('shape', -1, lets_run, BOOK, thing)
        self.invalid_paper('shape', -1, lets_run, BOOK, ((None,), [None]))

    def test_begins(self):
        for k in range(3):
            moment, number = RUN[0][k]
            for thing in NO_INTEGERS:
                self.invalid_paper('begin', k, lets_run, BOOK, self.begin_with(k, thing, number))
            for thing in NO_NUMBERS + (4, 10 ** 59):
                self.invalid_paper('begin', k, lets_run, BOOK, self.begin_with(k, moment, thing))
            for thing in NO_BOOKS + ([moment, number], (moment,), (moment, number, 0), RUN[0], nested(29)):
                self.invalid_paper('begin', k, lets_run, BOOK, (replaced(RUN[0], k, thing), RUN[1]))
        self.assertEqual(lets_run(BOOK, (((0, 3),), ())), (1, 0))
        self.invalid_paper('begin', 0, lets_run, BOOK, (((0, 4),), ()))
        self.invalid_paper('begin', 1, lets_run, BOOK, (((0, 3), (2, 4)), ()))

    def follows(self, one, number, gap, other, word):
        """Checks whether a text can begin so behind one at 10 with this number, or what is told of it."""
        run = (((10, number), (10 + gap, other)), ())
        if word is None:
            self.assertEqual(lets_run(one, run), (2, 0))
        else:
            self.invalid_paper(word, 1, lets_run, one, run)

    def test_pace(self):
        one = book(a=3, b=5)
        for gap in (3, 4, 5):
            self.follows(one, 1, gap, 2, None)
        for gap in (-10, -3, -1, 0, 1, 2, 6, 100, 10 ** 59):
            for other in range(4):
                self.follows(one, 1, gap, other, 'pace')

    def test_number(self):
        one = book(a=3, b=5)
        for gap in (3, 4, 5):
            for other in (0, 1, 3):
                self.follows(one, 1, gap, other, 'number')
            for other in (1, 2, 3):
                self.follows(one, 3, gap, other, 'number')
            self.follows(one, 3, gap, 0, None)
        self.follows(book(numbers=1), 0, 2, 0, None)

    def test_pause(self):
        one = book(a=3, b=5, pause=8)
        for gap, paced, stopped in ((2, 0, 0), (3, 1, 0), (5, 1, 0), (6, 0, 0), (7, 0, 0), (8, 0, 1), (9, 0, 1),
                                    (10 ** 59, 0, 1)):
            word = 'number' if paced or stopped else 'pace'
            self.follows(one, 1, gap, 2, None if paced else word)
            self.follows(one, 1, gap, 0, None if stopped else word)
            self.follows(one, 3, gap, 0, None if paced or stopped else word)
            for other in (1, 3):
                self.follows(one, 1, gap, other, word)

    def test_pause_within_the_paces(self):
        one = book(a=3, b=5, pause=4)
        for gap in (3, 4, 5, 6):
            self.follows(one, 1, gap, 2, None if gap < 6 else 'number')
            self.follows(one, 1, gap, 0, None if gap > 3 else 'number')
            self.follows(one, 1, gap, 3, 'number')
            self.follows(one, 3, gap, 0, None)
        one = book(a=3, b=5, pause=3)
        self.follows(one, 1, 3, 0, None)
        self.follows(one, 1, 3, 2, None)
        self.follows(one, 1, 2, 0, 'pace')

    def test_arrivals(self):
        for k in range(5):
            moment, text, part = RUN[1][k]
            for thing in NO_INTEGERS:
                self.invalid_paper('arrival', k, lets_run, BOOK, self.arrival_with(k, thing, text, part))
            for thing in NO_NUMBERS + (3, 10 ** 59):
                self.invalid_paper('arrival', k, lets_run, BOOK, self.arrival_with(k, moment, thing, part))
            for thing in NO_NUMBERS + (2, 10 ** 59):
                self.invalid_paper('arrival', k, lets_run, BOOK, self.arrival_with(k, moment, text, thing))
            for thing in NO_BOOKS + ([moment, text, part], (moment, text), (moment, text, part, 0), nested(29)):
                self.invalid_paper('arrival', k, lets_run, BOOK, (RUN[0], replaced(RUN[1], k, thing)))
        self.invalid_paper('arrival', 0, lets_run, BOOK, ((), ((1, 0, 0),)))

    def test_span(self):
        one = book(d=2, late=3)
        for gap, word in ((1, 'span'), (2, None), (3, None), (5, None), (6, 'span'), (0, 'span'), (-2, 'span')):
            for begin in (-50, 0, 7):
                run = (((begin, 0),), ((begin + gap, 0, 1),))
                if word is None:
                    self.assertEqual(lets_run(one, run), (1, 1))
                else:
                    self.invalid_paper(word, 0, lets_run, one, run)
        self.assertEqual(lets_run(book(d=0, late=0), (((0, 0),), ((0, 0, 0),))), (1, 1))

    def test_order(self):
        begins = ((0, 0), (2, 1))
        self.assertEqual(lets_run(BOOK, (begins, ((3, 1, 0), (3, 0, 0)))), (2, 2))
        self.invalid_paper('order', 1, lets_run, BOOK, (begins, ((4, 1, 0), (3, 0, 0))))
        self.invalid_paper('order', 2, lets_run, BOOK, (begins, ((3, 1, 0), (4, 0, 0), (3, 1, 1))))

    def test_copy(self):
        begins = ((0, 0), (2, 1))
        self.invalid_paper('copy', 1, lets_run, BOOK, (begins, ((3, 0, 0), (3, 0, 0))))
        one = book(copies=3)
        arrivals = ((3, 0, 1),) * 3 + ((3, 1, 1),) * 3 + ((3, 0, 0),) * 3
        self.assertEqual(lets_run(one, (begins, arrivals)), (2, 9))
        self.invalid_paper('copy', 9, lets_run, one, (begins, arrivals + ((3, 0, 1), (3, 1, 1))))

    def test_the_first_of_several(self):
        # The shape is ahead of all, all of one element ahead of the next, and begins ahead of arrivals.
        begins = ((0, 0), (9, 9), (None, 0))
        self.invalid_paper('begin', 1, lets_run, BOOK, (begins, (None,)))
        self.invalid_paper('pace', 1, lets_run, BOOK, (((0, 0), (9, 3), None), (None,)))
        self.invalid_paper('number', 1, lets_run, BOOK, (((0, 0), (2, 3), (1, 2)), (None,)))
        self.invalid_paper('pace', 2, lets_run, BOOK, (((0, 0), (2, 1), (2, 2)), (None,)))
        begins = ((0, 0), (2, 1))
        self.invalid_paper('arrival', 1, lets_run, BOOK, (begins, ((3, 0, 0), (99, 0, 2))))
        self.invalid_paper('span', 1, lets_run, BOOK, (begins, ((3, 0, 0), (0, 0, 0))))
        self.invalid_paper('order', 1, lets_run, BOOK, (begins, ((3, 0, 0), (2, 0, 0), None)))
        self.invalid_paper('copy', 1, lets_run, BOOK, (begins, ((3, 0, 0), (3, 0, 0), (2, 1, 0))))
        self.invalid_paper('begin', 2, lets_run, BOOK, (begins + ((4, True),), ((0, 0, 0),)))

    def test_fault_of_the_first_element_only_where_it_is_first(self):
        self.invalid_paper('number', 2, lets_run, BOOK, (((-3, 2), (-1, 3), (1, 3)), ()))
        self.assertEqual(lets_run(BOOK, (((-3, 2), (-1, 3), (1, 0)), ())), (3, 0))

    def test_runs_of_any_book(self):
        draws = Draws(11)
        for _ in range(300):
            one = any_book(draws)
            run = any_run(draws, one)
            self.assertEqual(lets_run(one, run), (len(run[0]), len(run[1])))

    def test_just_as_a_live_hearer_lets(self):
        draws = Draws(12)
        found = {}
        for _ in range(400):
            one = any_book(draws)
            begins, arrivals = any_run(draws, one)
            rows = [list(each) for each in begins + arrivals]
            if rows:
                row = draws.one(rows)
                row[draws.below(len(row))] += draws.one((-1, 1))
            begins, arrivals = tuple(map(tuple, rows[:len(begins)])), tuple(map(tuple, rows[len(begins):]))
            live, reason = LiveHearer(one), None
            for event in [('begin',) + each for each in begins] + [('hear',) + each for each in arrivals]:
                if reason is None and len(live) < 40:
                    reason = live.barred(event)
                    if reason is None:
                        live += event
            if len(begins + arrivals) > 40:
                continue
            found[reason] = found.get(reason, 0) + 1
            if reason is None:
                self.assertEqual(lets_run(one, (begins, arrivals)), (len(begins), len(arrivals)))
            else:
                words = {'pace': ('pace', 'number'), 'shape': ('begin', 'arrival'), 'number': ('begin',),
                         'text': ('arrival',), 'part': ('arrival',)}.get(reason, (reason,))
                with self.assertRaises(ValueError) as held:
                    lets_run(one, (begins, arrivals))
                self.assertIn(held.exception.word, words)
                ahead = len(live) - (len(begins) if held.exception.word in ('arrival', 'span', 'order', 'copy') else 0)
                self.assertEqual(held.exception.at, ahead)
        self.assertGreater(min(found.get(word, 0) for word in (None, 'pace', 'span', 'order', 'shape')), 3)


if __name__ == '__main__':
    unittest.main()
