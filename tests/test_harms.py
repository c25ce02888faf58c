import unittest

from pieceswindow.forms import causes_of, harms_that_can, is_harmless
from pieceswindow.harms import causes_in, harms_of, missed_texts, shown_texts
from pieceswindow.hearing import fates_of, showings_of
from pieceswindow.live import LiveHearer
from tests.models import Draws, any_book, any_run, model_of
from tests.samples import BOOK, NO_BOOKS, ROAD, SENDER, ErrorChecks
from tests.test_hearing import run_of, wide
from tests.test_live import book
from tests.test_runchecker import RUN

LONG = (SENDER, ROAD, (5, 1, 2, 'eldest'))
PAIRED = (((0, 0), (2, 1), (4, 2), (6, 3), (8, 0)), ((4, 0, 0), (9, 4, 1), (9, 4, 0)))


class TestHarms(ErrorChecks, unittest.TestCase):

    def told(self, one, run, harms=(), missed=(), shown=()):
        self.assertEqual(harms_of(one, run), harms)
        self.assertEqual(missed_texts(one, run), tuple(sorted(dict(missed))))
        self.assertEqual(shown_texts(one, run), shown)
        for text, causes in missed:
            self.assertEqual(causes_in(one, run, text), causes)

    def test_examples(self):
        found = [harms_of(BOOK, RUN), missed_texts(BOOK, RUN), causes_in(BOOK, RUN, 1), shown_texts(BOOK, RUN)]
        self.assertEqual(found, [('missed',), (1,), ('crowded',), ((2, 1),)])
        found = [showings_of(LONG, PAIRED), harms_of(LONG, PAIRED), causes_in(LONG, PAIRED, 4), harms_of(BOOK, PAIRED)]
        self.assertEqual(found, [((9, 0, (0, 4)),), ('joined', 'missed'), ('joined', 'swallowed'), ()])
        self.not_usable('text', causes_in, BOOK, RUN, 0)

    def test_nothing(self):
        for run in (((), ()), (((0, 0),), ()), (((0, 0),), ((1, 0, 0),))):
            self.told(BOOK, run)
            self.assertEqual(harms_of(run=run, book=BOOK), ())
            self.assertEqual(missed_texts(run=run, book=BOOK), ())
            self.assertEqual(shown_texts(run=run, book=BOOK), ())
        self.told(BOOK, (((0, 0),), ((1, 0, 0), (1, 0, 1))), shown=((0, 1),))

    def test_by_name(self):
        self.assertEqual(causes_in(text=1, run=RUN, book=BOOK), ('crowded',))

    def test_joined(self):
        one = wide(numbers=2)
        self.told(one, run_of(one, (10, 0, 0), (10, 2, 1)), ('joined',))
        # Parts of one text alone are no harm, even if it took the number of another.
        self.told(one, run_of(one, (10, 2, 0), (10, 2, 1)), shown=((2, 1),))
        three = wide(numbers=2, n=3)
        self.told(three, run_of(three, (10, 0, 0), (10, 0, 1), (10, 2, 2)), ('joined',))
        self.told(three, run_of(three, (10, 0, 0), (10, 2, 1), (10, 4, 2)), ('joined',))
        self.told(three, run_of(three, (10, 2, 0), (10, 0, 1), (10, 2, 2)), ('joined',))

    def test_twice(self):
        one = wide(memory=1)
        arrivals = ((10, 0, 0), (10, 0, 1), (12, 0, 0), (12, 0, 1), (14, 0, 0), (14, 0, 1))
        self.told(one, run_of(one, *arrivals[:3]), shown=((0, 1),))
        self.told(one, run_of(one, *arrivals[:4]), ('twice',), shown=((0, 2),))
        self.told(one, run_of(one, *arrivals), ('twice',), shown=((0, 3),))
        kept = wide(memory=2)
        self.told(kept, run_of(kept, *arrivals[:4]), shown=((0, 1),))
        alone = wide(n=1)
        self.told(alone, run_of(alone, (10, 0, 0), (10, 0, 0), (11, 0, 0), (11, 1, 0)), ('twice',),
                  shown=((0, 2), (1, 1)))

    def test_joined_showings_are_not_twice(self):
        one = wide(numbers=2)
        run = run_of(one, (10, 0, 0), (10, 2, 1), (11, 0, 0), (11, 2, 1))
        self.told(one, run, ('joined',))

    def test_swallowed(self):
        one = wide(n=1, numbers=1, memory=5)
        self.told(one, run_of(one, (10, 0, 0), (15, 1, 0)), ('missed',), ((1, ('swallowed',)),), ((0, 1),))
        self.told(one, run_of(one, (10, 0, 0), (16, 1, 0)), shown=((0, 1), (1, 1)))
        self.told(one, run_of(one, (10, 0, 0), (10, 3, 0), (10, 1, 0)), ('missed',),
                  ((1, ('swallowed',)), (3, ('swallowed',))), ((0, 1),))
        # Shown once, it is not missed, though further copies are swallowed.
        self.told(one, run_of(one, (10, 0, 0), (15, 1, 0), (16, 1, 0)), shown=((0, 1), (1, 1)))

    def test_late(self):
        one = wide(wait=5)
        self.told(one, run_of(one, (10, 0, 0), (16, 0, 1)), ('missed',), ((0, ('late',)),))
        self.told(one, run_of(one, (10, 0, 0), (15, 0, 1)), shown=((0, 1),))
        # An arrival of another text makes it forgotten.
        self.told(one, run_of(one, (10, 0, 0), (16, 1, 0), (17, 0, 1)), ('missed',), ((0, ('late',)),))
        three = wide(n=3, wait=0)
        self.told(three, run_of(three, (10, 0, 0), (11, 0, 1), (12, 0, 2)), ('missed',), ((0, ('late',)),))

    def test_crowded(self):
        arrivals = (10, 0, 0), (10, 1, 0), (10, 0, 1)
        for drop in ('eldest', 'slowest', 'newest'):
            one = wide(room=1, drop=drop)
            if drop == 'newest':
                self.told(one, run_of(one, *arrivals), shown=((0, 1),))
                run = run_of(one, *arrivals[:2], (10, 1, 1))
                self.told(one, run, ('missed',), ((1, ('crowded',)),))
                run = run_of(one, *arrivals, (10, 1, 1))
                self.told(one, run, ('missed',), ((1, ('crowded',)),), ((0, 1),))
            else:
                self.told(one, run_of(one, *arrivals), ('missed',), ((0, ('crowded',)),))
            wider = wide(room=2, drop=drop)
            self.told(wider, run_of(wider, *arrivals), shown=((0, 1),))

    def test_crowded_by_a_text_that_holds_parts_of_two(self):
        one = wide(n=3, numbers=3, room=1)
        arrivals = ((10, 0, 0), (10, 3, 1), (10, 1, 0), (11, 1, 1), (11, 1, 2), (11, 0, 1), (11, 0, 2))
        self.told(one, run_of(one, *arrivals), ('missed',), ((0, ('crowded', 'joined')),), ((1, 1),))
        # The joined showing of number 0 makes the last part of text 3 come behind it, too.
        run = run_of(one, *arrivals, (11, 3, 0), (11, 3, 2))
        self.told(one, run, ('joined', 'missed'), ((0, ('crowded', 'joined')), (3, ('crowded', 'joined', 'swallowed'))),
                  ((1, 1),))

    def test_joined_by_what_comes_into_it(self):
        # A part of text 2 comes into the open text of text 0, which is missed by this.
        one = wide(numbers=2, copies=1)
        run = run_of(one, (10, 0, 0), (10, 2, 1), (11, 0, 1))
        self.told(one, run, ('joined', 'missed'), ((0, ('joined',)),))

    def test_joined_by_being_heard_with_another(self):
        one = wide(numbers=2, copies=1)
        run = run_of(one, (10, 0, 0), (10, 2, 1), (11, 2, 0))
        self.told(one, run, ('joined', 'missed'), ((2, ('joined',)),))

    def test_joined_by_being_heard_for_nothing(self):
        one = wide(n=3, numbers=2, copies=1, wait=5)
        run = run_of(one, (10, 0, 0), (10, 2, 0), (16, 2, 1), (16, 2, 2))
        self.told(one, run, ('missed',), ((2, ('joined',)),))
        # What is heard for nothing takes nothing from the text that has the part.
        run = run_of(one, (10, 0, 0), (10, 2, 0), (10, 0, 1), (10, 0, 2))
        self.told(one, run, shown=((0, 1),))
        other = wide(numbers=2, copies=1, wait=5)
        run = run_of(other, (10, 0, 0), (10, 2, 0), (16, 0, 1), (16, 2, 1))
        self.told(other, run, ('missed',), ((0, ('late',)), (2, ('joined',))))

    def test_again_alone_does_not_join_the_other(self):
        one = wide(numbers=2, copies=2, wait=5)
        run = run_of(one, (10, 0, 0), (10, 2, 0), (16, 0, 1))
        self.told(one, run, ('missed',), ((0, ('late',)),))

    def test_again_of_the_same_text_is_no_cause(self):
        one = wide(wait=5)
        self.told(one, run_of(one, (10, 0, 0), (11, 0, 0), (16, 0, 1)), ('missed',), ((0, ('late',)),))

    def test_two_causes(self):
        one = wide(wait=5, room=1, memory=3)
        run = run_of(one, (10, 0, 0), (10, 1, 0), (11, 0, 0), (17, 0, 1))
        self.told(one, run, ('missed',), ((0, ('crowded', 'late')),))
        newest = wide(wait=5, room=1, drop='newest')
        run = run_of(newest, (10, 0, 0), (10, 1, 0), (16, 1, 0), (22, 1, 1))
        self.told(newest, run, ('missed',), ((1, ('crowded', 'late')),))
        swallowing = wide(numbers=2, memory=3, wait=5, copies=2)
        run = run_of(swallowing, (10, 0, 0), (10, 0, 1), (13, 2, 0), (14, 2, 0), (20, 2, 1))
        self.told(swallowing, run, ('missed',), ((2, ('late', 'swallowed')),), ((0, 1),))

    def test_causes_ascend(self):
        one = wide(numbers=1, memory=2, wait=3, room=1, copies=9)
        run = run_of(one, (10, 0, 0), (10, 0, 1), (11, 1, 0), (13, 2, 1), (14, 1, 1), (20, 1, 1), (30, 0, 0))
        self.assertEqual(causes_in(one, run, 1), ('joined', 'late', 'swallowed'))

    def test_text(self):
        for thing in NO_BOOKS + (0, 2, 3, 10 ** 59, (1,), [1], '1'):
            if isinstance(thing, bool) or thing != 1:
                self.not_usable('text', causes_in, BOOK, RUN, thing)
        for thing in (0, False, True):
            self.not_usable('text', causes_in, BOOK, ((), ()), thing)
        one = wide(n=1, numbers=1, memory=5)
        run = run_of(one, (10, 2, 0), (10, 0, 0), (11, 1, 0), (16, 1, 0))
        self.assertEqual(missed_texts(one, run), (0,))
        for thing in (False, 1, True, 2):
            self.not_usable('text', causes_in, one, run, thing)

    def test_as_the_model(self):
        draws = Draws(31)
        counts = {}
        for _ in range(1500):
            one = any_book(draws)
            run = any_run(draws, one, lost=9)
            model = model_of(one, run)
            self.assertEqual(harms_of(one, run), model.harms())
            self.assertEqual(missed_texts(one, run), model.missed())
            self.assertEqual(shown_texts(one, run), model.shown())
            for text in range(len(run[0])):
                if text in model.missed():
                    causes = causes_in(one, run, text)
                    self.assertEqual(causes, model.causes(text))
                    counts[causes] = counts.get(causes, 0) + 1
                else:
                    self.not_usable('text', causes_in, one, run, text)
        for cause in ('crowded', 'joined', 'late', 'swallowed'):
            self.assertGreater(counts[(cause,)], 20, cause)
        self.assertGreater(len(counts), 8)

    def test_what_happens_is_what_can_happen(self):
        draws = Draws(32)
        harmless = 0
        for _ in range(1500):
            one = any_book(draws)
            run = any_run(draws, one, lost=9)
            harms, missed = harms_of(one, run), missed_texts(one, run)
            self.assertLessEqual(set(harms), set(harms_that_can(one)), (one, run))
            for text in missed:
                causes = causes_in(one, run, text)
                self.assertNotEqual(causes, ())
                if len(causes) == 1:
                    self.assertIn(causes[0], causes_of(one))
            if is_harmless(one):
                harmless += 1
                whole = [text for text in range(len(run[0])) if all(
                    any(a[1:] == (text, part) for a in run[1]) for part in range(one[0][2]))]
                self.assertEqual(shown_texts(one, run), tuple((text, 1) for text in whole))
                self.assertEqual(len(showings_of(one, run)), len(whole))
        self.assertGreater(harmless, 30)

    def test_consequences(self):
        draws = Draws(33)
        for _ in range(300):
            one = any_book(draws)
            run = any_run(draws, one, lost=6)
            shown, missed = shown_texts(one, run), missed_texts(one, run)
            for text in range(len(run[0])):
                whole = all(any(a[1:] == (text, part) for a in run[1]) for part in range(one[0][2]))
                self.assertEqual(whole, (text in dict(shown)) != (text in missed))
                self.assertFalse(text in dict(shown) and text in missed)
            self.assertEqual('twice' in harms_of(one, run), any(many > 1 for _, many in shown))
            for by in (-77, 10 ** 59):
                later = (tuple((t + by, m) for t, m in run[0]), tuple((t + by, i, p) for t, i, p in run[1]))
                self.assertEqual(fates_of(one, later), fates_of(one, run))
                self.assertEqual(harms_of(one, later), harms_of(one, run))
                self.assertEqual([causes_in(one, later, text) for text in missed],
                                 [causes_in(one, run, text) for text in missed])

    def test_as_a_live_hearer(self):
        draws = Draws(34)
        for _ in range(150):
            one = any_book(draws)
            begins, arrivals = any_run(draws, one, most=6, lost=9)
            arrivals = arrivals[:40 - len(begins)]
            live = LiveHearer(one)
            for event in [('begin',) + each for each in begins] + [('hear',) + each for each in arrivals]:
                live += event
            self.assertEqual(live.harms_now, harms_of(one, (begins, arrivals)))
            self.assertEqual(live.missed_now, missed_texts(one, live.run_now))

    def test_kinds_of_results(self):
        for thing in (harms_of(BOOK, RUN), missed_texts(BOOK, RUN), shown_texts(BOOK, RUN), shown_texts(BOOK, RUN)[0],
                      causes_in(BOOK, RUN, 1)):
            self.assertIs(type(thing), tuple)

    def test_many_texts(self):
        one = book(copies=3, late=5, wait=9, memory=9, numbers=60, room=60)
        begins = tuple((2 * k, k) for k in range(40))
        arrivals = tuple(sorted((2 * k + 1 + part, k, part) for k in range(40) for part in (0, 1, 0, 1)))
        self.told(one, (begins, arrivals), shown=tuple((k, 1) for k in range(40)))


if __name__ == '__main__':
    unittest.main()
