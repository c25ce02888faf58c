import unittest

from pieceswindow.hearing import fates_of, open_of, remembered_of, showings_of
from pieceswindow.live import LiveHearer
from pieceswindow.runchecker import lets_run
from tests.models import Draws, any_book, any_run, model_of
from tests.samples import BOOK
from tests.test_live import book
from tests.test_runchecker import RUN

OPENS, COMES, AGAIN = ('opens', None, False), ('comes', None, False), ('again', None, False)
SHOWS, SWALLOWED, REFUSED = ('comes', None, True), ('swallowed', None, False), ('refused', None, False)
SHOWN = ('opens', None, True)


def wide(n=2, copies=3, numbers=6, wait=90, memory=0, room=2, drop='eldest'):
    """A book with which parts arrive at any moment that is used here."""
    return book(n=n, copies=copies, numbers=numbers, d=0, late=99, wait=wait, memory=memory, room=room, drop=drop)


def run_of(one, *arrivals):
    """A run with a text of each number, begun at 0, 2, 4 .., and with these arrivals."""
    run = (tuple((2 * k, k % one[0][4]) for k in range(6)), arrivals)
    lets_run(one, run)
    return run


class TestHearing(unittest.TestCase):

    def fates(self, one, *pairs):
        """Checks the fates of arrivals, in order; returns the run of them."""
        run = run_of(one, *[arrival for arrival, _ in pairs])
        self.assertEqual(fates_of(one, run), tuple(fate for _, fate in pairs))
        return run

    def test_examples(self):
        found = [showings_of(BOOK, RUN), open_of(BOOK, RUN), remembered_of(BOOK, RUN)]
        self.assertEqual(found, [((6, 1, (2, 2)),), ((0, 5, 5, (None, 1)),), ((1, 6),)])
        self.assertEqual(fates_of(BOOK, RUN), (OPENS, OPENS, ('opens', 0, False), ('opens', 3, False), SHOWS))

    def test_nothing_heard(self):
        for run in (((), ()), (((0, 0), (2, 1)), ())):
            for tell in (showings_of, fates_of, open_of, remembered_of):
                self.assertEqual(tell(BOOK, run), ())
                self.assertEqual(tell(run=run, book=BOOK), ())

    def test_kinds_of_results(self):
        for tell in (showings_of, fates_of, open_of, remembered_of):
            self.assertIs(type(tell(BOOK, RUN)), tuple)
            self.assertEqual({type(row) for row in tell(BOOK, RUN)}, {tuple})
        self.assertIs(type(showings_of(BOOK, RUN)[0][2]), tuple)
        self.assertIs(type(open_of(BOOK, RUN)[0][3]), tuple)

    def test_each_word(self):
        one = wide(n=3, room=1, drop='newest', memory=5)
        run = self.fates(one, ((10, 0, 2), OPENS), ((11, 0, 0), COMES), ((11, 0, 2), AGAIN), ((11, 1, 1), REFUSED),
                         ((12, 0, 1), SHOWS), ((12, 0, 0), SWALLOWED), ((13, 1, 1), OPENS))
        self.assertEqual(showings_of(one, run), ((12, 0, (0, 0, 0)),))
        self.assertEqual(open_of(one, run), ((1, 13, 13, (None, 1, None)),))
        self.assertEqual(remembered_of(one, run), ((0, 12),))

    def test_wait(self):
        for wait, later in ((5, SHOWS), (4, OPENS)):
            self.fates(wide(wait=wait), ((10, 0, 0), OPENS), ((13, 0, 0), AGAIN), ((15, 0, 1), later))
        self.fates(wide(wait=0), ((10, 0, 0), OPENS), ((10, 0, 1), SHOWS))

    def test_memory(self):
        for memory, later in ((5, SWALLOWED), (4, OPENS)):
            self.fates(wide(memory=memory), ((9, 0, 0), OPENS), ((10, 0, 1), SHOWS), ((15, 0, 1), later))
        self.fates(wide(), ((9, 0, 0), OPENS), ((9, 0, 1), SHOWS), ((9, 0, 1), SWALLOWED), ((10, 0, 1), OPENS))

    def test_what_is_swallowed_makes_no_number_younger(self):
        self.fates(wide(n=1, memory=2), ((9, 0, 0), SHOWN), ((11, 0, 0), SWALLOWED), ((12, 0, 0), SHOWN))

    def test_dropping(self):
        heard = (((10, 1, 0), OPENS), ((10, 0, 0), OPENS), ((10, 1, 0), AGAIN))
        for drop, fate, left in (('eldest', ('opens', 1, False), (0, 2)), ('slowest', ('opens', 0, False), (1, 2)),
                                 ('newest', REFUSED, (1, 0))):
            one = wide(drop=drop)
            run = self.fates(one, *heard, ((10, 2, 1), fate))
            self.assertEqual(tuple(row[0] for row in open_of(one, run)), left)
            self.fates(wide(drop=drop, room=3), *heard, ((10, 2, 1), OPENS))
        self.fates(wide(drop='slowest'), *heard[:2], ((10, 2, 1), ('opens', 1, False)))
        self.fates(wide(drop='slowest', n=3), *heard[:2], ((10, 1, 1), COMES), ((10, 2, 1), ('opens', 0, False)))

    def test_room_that_was_forgotten_or_shown_is_free(self):
        self.fates(wide(wait=5), ((10, 0, 0), OPENS), ((11, 1, 0), OPENS), ((16, 2, 0), OPENS))
        self.fates(wide(wait=6), ((10, 0, 0), OPENS), ((11, 1, 0), OPENS), ((16, 2, 0), ('opens', 0, False)))
        self.fates(wide(), ((10, 0, 0), OPENS), ((10, 1, 0), OPENS), ((10, 0, 1), SHOWS), ((10, 2, 0), OPENS))

    def test_one_part(self):
        one = wide(n=1, room=1, drop='newest', memory=1, wait=0)
        run = self.fates(one, ((10, 0, 0), SHOWN), ((10, 1, 0), SHOWN), ((11, 0, 0), SWALLOWED), ((12, 2, 0), SHOWN),
                         ((12, 0, 0), SHOWN))
        self.assertEqual((open_of(one, run), remembered_of(one, run)), ((), ((0, 12), (2, 12))))
        self.assertEqual(showings_of(one, run), ((10, 0, (0,)), (10, 1, (1,)), (12, 2, (2,)), (12, 0, (0,))))

    def test_opened_anew_behind_a_showing(self):
        one = wide(memory=1)
        run = self.fates(one, ((9, 0, 0), OPENS), ((10, 0, 1), SHOWS), ((12, 0, 1), OPENS), ((13, 0, 0), SHOWS))
        self.assertEqual(showings_of(one, run), ((10, 0, (0, 0)), (13, 0, (0, 0))))
        self.assertEqual(remembered_of(one, run), ((0, 13),))

    def test_two_texts_with_one_number(self):
        one = wide(numbers=2)
        run = self.fates(one, ((10, 0, 0), OPENS), ((11, 2, 0), AGAIN), ((12, 2, 1), SHOWS), ((12, 4, 1), SWALLOWED))
        self.assertEqual(showings_of(one, run), ((12, 0, (0, 2)),))

    def test_what_is_left(self):
        one = wide(n=3, wait=3, memory=1, room=3)
        run = run_of(one, (9, 0, 2), (9, 0, 1), (9, 0, 0), (10, 3, 1), (10, 1, 2), (10, 1, 0))
        # The next arrival would make it forget all this.
        self.assertEqual(open_of(one, run), ((3, 10, 10, (None, 3, None)), (1, 10, 10, (1, None, 1))))
        self.assertEqual(remembered_of(one, run), ((0, 9),))
        run = (run[0], run[1] + ((14, 2, 0),))
        self.assertEqual((open_of(one, run), remembered_of(one, run)), (((2, 14, 14, (2, None, None)),), ()))

    def test_moments_of_open_texts(self):
        one = wide(n=3)
        run = run_of(one, (10, 0, 2), (12, 0, 2), (13, 1, 0))
        self.assertEqual(open_of(one, run), ((0, 10, 12, (None, None, 0)), (1, 13, 13, (1, None, None))))

    def test_remembered_numbers_ascend(self):
        one = wide(n=1, memory=50)
        run = run_of(one, (10, 5, 0), (11, 3, 0), (12, 0, 0))
        self.assertEqual(remembered_of(one, run), ((0, 12), (3, 11), (5, 10)))

    def test_as_the_model(self):
        draws = Draws(21)
        words = {}
        for _ in range(700):
            one = any_book(draws)
            run = any_run(draws, one)
            model = model_of(one, run)
            fates = fates_of(one, run)
            self.assertEqual(fates, tuple(model.answers[len(run[0]):]))
            self.assertEqual(showings_of(one, run), tuple(model.showings))
            self.assertEqual(open_of(one, run), model.open_rows())
            self.assertEqual(remembered_of(one, run), model.remembered_pairs())
            for word, dropped, shows in fates:
                words[word, dropped is None, shows] = words.get((word, dropped is None, shows), 0) + 1
        for key in (('swallowed', True, False), ('refused', True, False), ('opens', True, False),
                    ('opens', False, False), ('opens', True, True), ('comes', True, False), ('comes', True, True),
                    ('again', True, False)):
            self.assertGreater(words[key], 50, key)
        self.assertEqual(len(words), 8)

    def test_as_a_live_hearer(self):
        draws = Draws(22)
        for _ in range(100):
            one = any_book(draws)
            run = any_run(draws, one, most=5)
            events = [('begin',) + each for each in run[0]] + [('hear',) + each for each in run[1]]
            live = LiveHearer(one)
            answers = tuple(live.go(event) for event in events[:40])
            run = (run[0], run[1][:40 - len(run[0])])
            self.assertEqual(fates_of(one, run), answers[len(run[0]):])
            self.assertEqual(live.run_now, run)
            told = (live.showings_now, live.open_now, live.remembered_now)
            self.assertEqual((showings_of(one, run), open_of(one, run), remembered_of(one, run)), told)

    def test_beginnings_of_runs(self):
        draws = Draws(23)
        for _ in range(60):
            one = any_book(draws)
            begins, arrivals = any_run(draws, one)
            showings, fates = showings_of(one, (begins, arrivals)), fates_of(one, (begins, arrivals))
            for k in range(len(arrivals) + 1):
                first = showings_of(one, (begins, arrivals[:k]))
                self.assertEqual(first, showings[:len(first)])
                self.assertEqual(fates_of(one, (begins, arrivals[:k])), fates[:k])

    def test_each_part_is_in_one_place(self):
        # Each arrival that opens or comes is in a showing, still open, dropped, or forgotten.
        draws = Draws(24)
        for _ in range(200):
            one = any_book(draws)
            run = any_run(draws, one)
            heard = sum(word in ('opens', 'comes') for word, _, _ in fates_of(one, run))
            shown = sum(len(texts) for _, _, texts in showings_of(one, run))
            still = sum(text is not None for row in open_of(one, run) for text in row[3])
            deeds = model_of(one, run).deeds
            if not any(deed['forgotten'] or deed['dropped'] for deed in deeds):
                self.assertEqual(heard, shown + still)
            else:
                self.assertGreater(heard, shown + still)

    def test_later_by_the_same_amount(self):
        draws = Draws(25)
        for by in (-10000, -1, 1, 10000, 10 ** 59):
            one = any_book(draws)
            begins, arrivals = any_run(draws, one)
            later = (tuple((t + by, m) for t, m in begins), tuple((t + by, text, part) for t, text, part in arrivals))
            self.assertEqual(fates_of(one, later), fates_of(one, (begins, arrivals)))
            shown = tuple((t + by, m, texts) for t, m, texts in showings_of(one, (begins, arrivals)))
            self.assertEqual(showings_of(one, later), shown)


if __name__ == '__main__':
    unittest.main()
