import unittest

from pieceswindow.errors import InvalidPaper
from pieceswindow.harms import causes_in, harms_of, missed_texts
from pieceswindow.hearing import fates_of, showings_of
from pieceswindow.live import LiveHearer
from pieceswindow.runchanges import joined_runs, shifted, without_arrival
from pieceswindow.runchecker import lets_run
from tests.models import Draws, any_book, any_run
from tests.samples import BOOK, NO_BOOKS, NO_INTEGERS, NO_NUMBERS, SAFE, ErrorChecks
from tests.test_live import book
from tests.test_runchecker import RUN

NOTHING = ((), ())


class TestShifted(ErrorChecks, unittest.TestCase):

    def test_example(self):
        self.assertEqual(shifted(BOOK, RUN, -4)[0], ((-4, 3), (-2, 0), (0, 1)))

    def test_all_moments(self):
        found = shifted(by=-4, run=RUN, book=BOOK)
        self.assertEqual(found[1], ((-1, 1, 0), (0, 0, 0), (1, 2, 0), (1, 1, 1), (2, 2, 1)))
        self.assertEqual(shifted(BOOK, RUN, 0), RUN)
        self.assertEqual(shifted(BOOK, NOTHING, 7), NOTHING)
        self.assertEqual(shifted(BOOK, (((-3, 0),), ((-2, 0, 1),)), 3), (((0, 0),), ((1, 0, 1),)))

    def test_great_by(self):
        for by in (-10000, 10000, 10 ** 59, -10 ** 59):
            begins, arrivals = shifted(BOOK, RUN, by)
            self.assertEqual(begins, tuple((moment + by, number) for moment, number in RUN[0]))
            self.assertEqual(arrivals, tuple((moment + by, text, part) for moment, text, part in RUN[1]))
            self.assertEqual(shifted(BOOK, (begins, arrivals), -by), RUN)

    def test_any_runs(self):
        draws = Draws(101)
        for _ in range(150):
            one = any_book(draws)
            run, by = any_run(draws, one), draws.between(-50, 50)
            later = shifted(one, run, by)
            self.assertEqual(lets_run(one, later), lets_run(one, run))
            self.assertEqual(fates_of(one, later), fates_of(one, run))
            self.assertEqual(harms_of(one, later), harms_of(one, run))
            shown = tuple((t + by, m, texts) for t, m, texts in showings_of(one, run))
            self.assertEqual(showings_of(one, later), shown)
            self.assertEqual([causes_in(one, later, text) for text in missed_texts(one, later)],
                             [causes_in(one, run, text) for text in missed_texts(one, run)])
            self.assertEqual(shifted(one, later, -by), run)

    def test_kinds_of_results(self):
        for thing in (shifted(BOOK, RUN, 1), without_arrival(BOOK, RUN, 1), joined_runs(BOOK, RUN, NOTHING)):
            self.assertEqual({type(row) for row in (thing,) + thing + thing[0] + thing[1]}, {tuple})

    def test_by(self):
        for thing in NO_INTEGERS + (BOOK, RUN, LiveHearer(BOOK)):
            self.not_usable('by', shifted, BOOK, RUN, thing)
            self.not_usable('by', shifted, BOOK, NOTHING, thing)


class TestWithoutArrival(ErrorChecks, unittest.TestCase):

    def test_examples(self):
        run = without_arrival(BOOK, RUN, 2)
        self.assertEqual([harms_of(BOOK, run), showings_of(BOOK, run)], [(), ((5, 0, (1, 1)),)])

    def test_each_index(self):
        for k in range(5):
            begins, arrivals = without_arrival(k=k, run=RUN, book=BOOK)
            self.assertEqual(begins, RUN[0])
            self.assertEqual(arrivals, tuple(RUN[1][at] for at in range(5) if at != k))
        self.assertEqual(without_arrival(BOOK, (((0, 0),), ((1, 0, 0),)), 0), (((0, 0),), ()))

    def test_copies_in_one_moment(self):
        one = book(copies=3)
        run = (((0, 0),), ((1, 0, 0), (1, 0, 0), (1, 0, 1)))
        self.assertEqual(without_arrival(one, run, 0), (((0, 0),), ((1, 0, 0), (1, 0, 1))))
        self.assertEqual(without_arrival(one, run, 2), (((0, 0),), ((1, 0, 0), (1, 0, 0))))

    def test_any_runs(self):
        draws = Draws(102)
        for _ in range(60):
            one = any_book(draws)
            run = any_run(draws, one, most=4)
            for k in range(len(run[1])):
                self.assertEqual(lets_run(one, without_arrival(one, run, k)), (len(run[0]), len(run[1]) - 1))

    def test_no_indexes(self):
        for thing in NO_NUMBERS + (5, 6, 10 ** 59, RUN, LiveHearer(BOOK)):
            self.not_usable('k', without_arrival, BOOK, RUN, thing)
        for thing in (0, 1, -1, False, True):
            self.not_usable('k', without_arrival, BOOK, (((0, 0),), ()), thing)
            self.not_usable('k', without_arrival, BOOK, NOTHING, thing)


class TestJoinedRuns(ErrorChecks, unittest.TestCase):

    def test_examples(self):
        found = joined_runs(BOOK, RUN, (((7, 2),), ((8, 0, 1), (9, 0, 0))))
        self.assertEqual(found[1][4:], ((6, 2, 1), (8, 3, 1), (9, 3, 0)))
        self.assertEqual(found, (RUN[0] + ((7, 2),), RUN[1] + ((8, 3, 1), (9, 3, 0))))
        self.not_usable('late', joined_runs, BOOK, RUN, RUN)

    def test_without_texts(self):
        self.assertEqual(joined_runs(BOOK, RUN, NOTHING), RUN)
        self.assertEqual(joined_runs(BOOK, NOTHING, RUN), RUN)
        self.assertEqual(joined_runs(late=NOTHING, run=NOTHING, book=BOOK), NOTHING)
        self.assertEqual(joined_runs(BOOK, (((0, 0),), ()), (((2, 1),), ())), (((0, 0), (2, 1)), ()))

    def test_order_of_arrivals(self):
        one = book(copies=9, late=9)
        run = (((0, 0), (2, 1)), ((3, 0, 1), (5, 1, 0), (5, 0, 0), (5, 0, 1), (9, 1, 1)))
        late = (((4, 2), (6, 3)), ((5, 0, 1), (5, 0, 0), (7, 1, 1), (9, 0, 1), (9, 0, 0), (10, 1, 0)))
        told = ((3, 0, 1), (5, 1, 0), (5, 0, 0), (5, 0, 1), (5, 2, 1), (5, 2, 0), (7, 3, 1), (9, 1, 1), (9, 2, 1),
                (9, 2, 0), (10, 3, 0))
        self.assertEqual(joined_runs(one, run, late), (run[0] + late[0], told))

    def test_pace_between(self):
        first = (((0, 0), (2, 1)), ())
        for gap in range(-3, 7):
            late = (((2 + gap, 2),), ())
            if gap in (2, 3):
                self.assertEqual(joined_runs(BOOK, first, late)[0], first[0] + late[0])
            else:
                self.not_usable('late', joined_runs, BOOK, first, late)

    def test_number_between(self):
        for number in range(4):
            late = (((9, number),), ())
            for last in range(4):
                first = (((7, last),), ())
                if number == (last + 1) % 4:
                    self.assertEqual(joined_runs(BOOK, first, late)[0], ((7, last), (9, number)))
                else:
                    self.not_usable('late', joined_runs, BOOK, first, late)

    def test_stop_between(self):
        one = book(pause=5)
        for gap in range(1, 12):
            for number in range(4):
                late = (((gap, number),), ((gap + 1, 0, 0),))
                if gap in (2, 3) and number == 2 or gap >= 5 and number == 0:
                    found = joined_runs(one, (((0, 1),), ()), late)
                    self.assertEqual(found, (((0, 1), (gap, number)), ((gap + 1, 1, 0),)))
                else:
                    self.not_usable('late', joined_runs, one, (((0, 1),), ()), late)

    def test_any_runs_cut_in_two(self):
        draws = Draws(103)
        for _ in range(200):
            one = any_book(draws)
            begins, arrivals = any_run(draws, one)
            at = draws.below(len(begins) + 1)
            run = (begins[:at], tuple(each for each in arrivals if each[1] < at))
            late = (begins[at:], tuple((t, text - at, part) for t, text, part in arrivals if text >= at))
            both = joined_runs(one, run, late)
            self.assertEqual(both[0], begins)
            self.assertEqual(sorted(both[1]), sorted(arrivals))
            self.assertEqual(both[1], tuple(sorted(run[1] + tuple((t, text + at, part) for t, text, part in late[1]),
                                                   key=lambda arrival: arrival[0])))
            self.assertEqual(lets_run(one, both), (len(begins), len(arrivals)))

    def test_any_two_runs(self):
        draws = Draws(104)
        joined = 0
        for _ in range(400):
            one = any_book(draws)
            run, late = any_run(draws, one, most=3), shifted(one, any_run(draws, one, most=3), draws.below(20))
            try:
                behind = tuple((t, text + len(run[0]), part) for t, text, part in late[1])
                lets_run(one, (run[0] + late[0], tuple(sorted(run[1] + behind, key=lambda arrival: arrival[0]))))
            except InvalidPaper:
                self.not_usable('late', joined_runs, one, run, late)
            else:
                joined += 1
                self.assertEqual(joined_runs(one, run, late)[0], run[0] + late[0])
        self.assertGreater(joined, 100)

    def test_no_runs(self):
        late = (((6, 2),), ((7, 0, 0), (8, 0, 1)))
        self.assertEqual(len(joined_runs(BOOK, RUN, late)[1]), 7)
        wrong = (list(late), late[0], (late,), late + ((),), (late[0], list(late[1])), (((6, True),), ()),
                 (((6, 4),), ()), (((True, 2),), ()), (late[0], ((7, 0, 0), (7, 0, 0))),
                 (late[0], ((8, 0, 0), (7, 0, 1))), (late[0], ((7, 1, 0),)), (late[0], ((7, 0, 2),)),
                 (late[0], ((6, 0, 0),)), (late[0], ((11, 0, 0),)),
                 (((6, 2), (7, 3)), ()), (((6, 2), (8, 2)), ()))
        for thing in NO_BOOKS + wrong + (BOOK, LiveHearer(BOOK)):
            self.not_usable('late', joined_runs, BOOK, RUN, thing)
            self.not_usable('late', joined_runs, BOOK, NOTHING, thing)

    def test_what_is_handed_in_stays(self):
        run, late = (((0, 0),), ((2, 0, 0),)), (((2, 1),), ((3, 0, 1),))
        self.assertEqual(joined_runs(SAFE, run, late), (((0, 0), (2, 1)), ((2, 0, 0), (3, 1, 1))))
        self.assertEqual((run, late), ((((0, 0),), ((2, 0, 0),)), (((2, 1),), ((3, 0, 1),))))


if __name__ == '__main__':
    unittest.main()
