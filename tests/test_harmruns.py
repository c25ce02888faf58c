import unittest
from itertools import product

from pieceswindow.forms import can_be, can_be_alone, causes_of, crowd_of, harms_that_can
from pieceswindow.harmruns import cause_run, harm_run
from pieceswindow.harms import causes_in, harms_of, missed_texts
from pieceswindow.runchecker import lets_run
from tests.models import Draws, all_runs, any_book, model_of
from tests.samples import BOOK, LONGER, NO_BOOKS, SAFE, ErrorChecks
from tests.test_forms import book, told_causes, told_harms

HARMS = ('joined', 'missed', 'twice')
CAUSES = ('crowded', 'joined', 'late', 'swallowed')
DROPS = ('eldest', 'newest', 'slowest')


def told_size(one, cause):
    """How many arrivals cause_run has by [37]."""
    n, room = one[0][2], one[2][2]
    return {'late': n, 'joined': n + 1, 'crowded': n + room, 'swallowed': 2 * n}[cause]


def told_harm_size(one, harm):
    """How many arrivals harm_run has by [37]."""
    if harm == 'missed':
        return min(told_size(one, cause) for cause in told_causes(one))
    return one[0][2] if harm == 'joined' else 2 * one[0][2]


def alone_in(one, run):
    """The causes that some missed text of the run has alone."""
    causes = [causes_in(one, run, text) for text in missed_texts(one, run)]
    return {each[0] for each in causes if len(each) == 1}


class RunChecks(ErrorChecks):

    def check(self, one):
        """Checks the runs of all harms and causes of a book, by the document's forms."""
        for harm in HARMS:
            run = harm_run(one, harm)
            self.assertIs(run is not None, harm in told_harms(one), (one, harm))
            if run is not None:
                self.shows(one, run, told_harm_size(one, harm))
                self.assertIn(harm, harms_of(one, run), (one, run))
        for cause in CAUSES:
            run = cause_run(one, cause)
            self.assertIs(run is not None, cause in told_causes(one), (one, cause))
            if run is not None:
                self.shows(one, run, told_size(one, cause))
                self.assertIn(cause, alone_in(one, run), (one, run))

    def shows(self, one, run, size):
        """Checks that this is a run with so many arrivals."""
        self.assertEqual(lets_run(one, run), (len(run[0]), size), one)
        for row in (run,) + run + run[0] + run[1]:
            self.assertIs(type(row), tuple)


class TestHarmRuns(RunChecks, unittest.TestCase):

    def test_examples(self):
        joining = harm_run(LONGER, 'joined')
        found = [len(harm_run(BOOK, 'missed')[1]), harm_run(BOOK, 'twice'), harms_of(LONGER, joining)]
        self.assertEqual(found, [4, None, ('joined',)])
        found = [len(harm_run(LONGER, 'joined')[1]), len(cause_run(LONGER, 'joined')[1]), cause_run(LONGER, 'late')]
        self.assertEqual(found, [2, 3, None])

    def test_books_of_the_examples(self):
        for one in (BOOK, LONGER, SAFE):
            self.check(one)
        self.assertEqual([harm_run(SAFE, harm) for harm in HARMS], [None] * 3)
        self.assertEqual([cause_run(SAFE, cause) for cause in CAUSES], [None] * 4)

    def test_by_name(self):
        self.assertEqual(harm_run(harm='missed', book=BOOK), harm_run(BOOK, 'missed'))
        self.assertEqual(cause_run(cause='crowded', book=BOOK), cause_run(BOOK, 'crowded'))

    def test_at_the_bounds(self):
        # reach is 8 and late 3, or reach is the pause; a harm can be on one side of each bound.
        for wait in (2, 3, 4, 5, 6):
            for memory in (2, 3, 4, 5, 6):
                for pause in (None, 6, 7, 8, 9):
                    for n, copies in ((1, 1), (1, 2), (2, 1), (2, 2), (3, 1)):
                        self.check(book(n=n, copies=copies, pause=pause, wait=wait, memory=memory))

    def test_room_at_the_bounds(self):
        for drop, numbers, wait in product(DROPS, (1, 2, 3, 4, 9), (0, 2, 3, 5, 8)):
            for late, a in ((3, 1), (3, 2), (5, 2), (7, 3), (2, 4), (0, 1)):
                for n, room in product((1, 2, 3), (1, 2, 3, 4, 5, 6, 7)):
                    self.check(book(a=a, n=n, numbers=numbers, late=late, wait=wait, room=room, drop=drop, d=1))

    def test_crowded_by_all_that_can(self):
        for drop in DROPS:
            for a, late, wait in product((1, 2, 3, 5), range(9), range(12)):
                one = book(a=a, numbers=60, late=late, wait=wait, drop=drop)
                crowd = crowd_of(one)
                for room in range(1, crowd + 2):
                    wide = (one[0], one[1], (wait, 0, room, drop))
                    run = cause_run(wide, 'crowded')
                    self.assertIs(run is not None, room <= crowd)
                    if run is not None:
                        self.shows(wide, run, 2 + room)
                        self.assertIn('crowded', alone_in(wide, run))

    def test_any_books(self):
        draws = Draws(51)
        for _ in range(600):
            self.check(any_book(draws))

    def test_by_the_model(self):
        draws = Draws(52)
        for _ in range(150):
            one = any_book(draws)
            for harm in harms_that_can(one):
                self.assertIn(harm, model_of(one, harm_run(one, harm)).harms())
            for cause in causes_of(one):
                model = model_of(one, cause_run(one, cause))
                self.assertIn((cause,), [model.causes(text) for text in model.missed()])

    def test_limits(self):
        for drop, wait, memory in product(DROPS, (0, 399, 400), (0, 399, 400)):
            for a, n, numbers, room in ((1, 60, 60, 59), (60, 60, 60, 60), (6, 2, 60, 60), (7, 60, 60, 58),
                                        (1, 1, 60, 60), (13, 2, 60, 60), (13, 2, 60, 61), (14, 3, 60, 57),
                                        (14, 3, 60, 56)):
                for late, pause in ((400, None), (399, 400), (400, 400), (0, 400)):
                    self.check(((a, 60, n, 60, numbers, pause), (400, late), (wait, memory, room, drop)))

    def test_beyond_the_limits(self):
        for drop, pause in product(DROPS, (None, 10 ** 31)):
            one = ((10 ** 30, 10 ** 31, 2, 2, 3, pause), (10 ** 40, 10 ** 32), (10 ** 31, 10 ** 32 - 1, 2, drop))
            self.assertEqual([len(harm_run(one, harm)[1]) for harm in HARMS], [2, 2, 4])
            for cause, size in zip(CAUSES, (4, 3, 2, 4)):
                run = cause_run(one, cause)
                self.shows(one, run, size)
                self.assertEqual(alone_in(one, run), {cause})

    def test_the_fewest_of_several_causes(self):
        # Crowded with n + room arrivals or swallowed with 2 * n, then joined with n + 1, then late with n.
        for n, drop in product((2, 3, 4), DROPS):
            for room in range(1, 7):
                one = book(a=1, n=n, numbers=20, late=3, wait=3, memory=17, room=room, drop=drop)
                self.assertEqual(causes_of(one), ('crowded', 'swallowed'))
                self.assertEqual(len(harm_run(one, 'missed')[1]), n + min(n, room))
                self.check(one)
                one = book(a=1, n=n, numbers=20, late=3, wait=17, memory=17, room=room, drop=drop)
                self.assertEqual(causes_of(one), ('crowded', 'joined', 'swallowed'))
                self.assertEqual(len(harm_run(one, 'missed')[1]), n + 1)
                self.check(one)
                one = book(a=1, n=n, numbers=3, late=3, wait=0, memory=17, room=min(room, 2), drop=drop)
                self.assertEqual(causes_of(one), ('crowded', 'joined', 'late', 'swallowed'))
                self.assertEqual(len(harm_run(one, 'missed')[1]), n)
                self.check(one)

    def test_only_the_run_that_is_asked_for(self):
        # A text is late by itself; the other runs would need as many texts as there are numbers.
        one = ((1, 1, 2, 1, 10 ** 50, None), (0, 10 ** 51), (10 ** 50, 10 ** 51, 3, 'eldest'))
        self.shows(one, harm_run(one, 'missed'), 2)
        self.assertEqual(harms_of(one, harm_run(one, 'missed')), ('missed',))
        one = ((1, 1, 2, 1, 10 ** 50, None), (0, 10 ** 30), (10 ** 30, 10 ** 51, 3, 'newest'))
        self.shows(one, cause_run(one, 'crowded'), 5)

    def test_pause_alone_brings_a_number_back(self):
        one = book(numbers=60, pause=5, wait=9, late=1, room=60)
        for run in (harm_run(one, 'joined'), cause_run(one, 'joined')):
            self.assertEqual(len(run[0]), 2)
        self.check(one)

    def test_runs_with_other_hearers(self):
        for hearer in ((0, 0, 1, 'newest'), (400, 400, 60, 'slowest')):
            run = harm_run(LONGER, 'joined')
            lets_run(LONGER[:2] + (hearer,), run)
        self.assertEqual(harms_of(SAFE, harm_run(LONGER, 'joined')), ())

    def test_wrong_words(self):
        for thing in NO_BOOKS + ('late', 'crowded', 'Joined', 'joined ', ['joined'], ('joined',), BOOK):
            self.not_usable('harm', harm_run, BOOK, thing)
            self.not_usable('harm', harm_run, SAFE, thing)
        for thing in NO_BOOKS + ('missed', 'twice', 'Late', 'late ', ['late'], ('late',), BOOK):
            self.not_usable('cause', cause_run, BOOK, thing)
            self.not_usable('cause', cause_run, SAFE, thing)


class TestFewestArrivals(unittest.TestCase):
    """No run with fewer arrivals has the harm, or a text missed by the cause alone: small runs, one by one."""

    def fewest(self, one, texts, most):
        least = {harm: told_harm_size(one, harm) for harm in HARMS if can_be(one, harm)}
        alone = {cause: told_size(one, cause) for cause in CAUSES if can_be_alone(one, cause)}
        found = set()
        for run in all_runs(one, texts, most):
            for harm in harms_of(one, run):
                self.assertLessEqual(least[harm], len(run[1]), (one, run))
                found.add(harm)
            for cause in alone_in(one, run):
                self.assertLessEqual(alone[cause], len(run[1]), (one, run))
                found.add(('alone', cause))
        return found

    def told(self, one, texts, most, *words):
        """Checks as fewest, and what of these many arrivals was found at all."""
        found = self.fewest(one, texts, most)
        self.assertEqual(found, {word for word in words if word in HARMS} | {
            ('alone', word[1:]) for word in words if word[0] == '='})

    def test_one_part(self):
        one = book(a=1, n=1, copies=2, numbers=2, late=1, wait=0, memory=1, room=1)
        self.told(one, 3, 4, 'missed', '=swallowed')
        one = book(a=1, n=1, copies=2, numbers=2, late=1, wait=0, memory=0, room=1)
        self.told(one, 3, 4, 'twice')

    def test_joined(self):
        one = book(a=1, numbers=1, late=1, wait=1, memory=0, room=1)
        self.told(one, 2, 4, 'joined', 'missed', '=joined', '=swallowed')

    def test_late(self):
        one = book(a=2, copies=2, numbers=2, late=1, wait=0, memory=0, room=1)
        self.told(one, 2, 4, 'missed', '=late', 'twice')

    def test_crowded(self):
        for drop in DROPS:
            one = book(a=1, numbers=4, late=1, wait=1, memory=1, room=1, drop=drop)
            self.told(one, 2, 4, 'missed', '=crowded')
            one = book(a=1, numbers=4, late=1, wait=1, memory=1, room=2, drop=drop)
            self.told(one, 3, 4, 'missed', '=crowded')
            one = book(a=1, numbers=4, late=1, wait=1, memory=1, room=3, drop=drop)
            self.told(one, 3, 4)

    def test_pause(self):
        one = book(a=1, numbers=4, pause=2, late=1, wait=1, memory=1, room=4)
        self.told(one, 2, 4, 'joined', 'missed', '=joined', '=swallowed')
        one = book(a=1, numbers=4, pause=3, late=1, wait=1, memory=1, room=4)
        self.told(one, 2, 4)

    def test_three_parts(self):
        one = book(a=1, n=3, numbers=1, late=1, wait=1, memory=1, room=1)
        self.told(one, 2, 4, 'joined', 'missed', '=joined')

    def test_any_books(self):
        draws = Draws(53)
        for _ in range(150):
            a = draws.between(1, 2)
            sender = (a, a + draws.below(2), draws.between(1, 2), draws.between(1, 2), draws.between(1, 3),
                      draws.one((None, a + draws.below(2))))
            hearer = (draws.below(3), draws.below(3), draws.between(1, 2), draws.one(DROPS))
            self.fewest((sender, (draws.below(2), draws.below(2)), hearer), 2, 3)


if __name__ == '__main__':
    unittest.main()
