import unittest
from itertools import product

from pieceswindow.forms import can_be
from pieceswindow.harmchecker import lets_harm
from pieceswindow.harmpapers import harm_paper
from pieceswindow.live import LiveHearer
from tests.models import Draws, any_book
from tests.samples import BOOK, LONGER, NO_BOOKS, SAFE, ErrorChecks
from tests.test_forms import book
from tests.test_harmruns import DROPS, HARMS, told_harm_size


class TestHarmPapers(ErrorChecks, unittest.TestCase):

    def check(self, one):
        """Checks the papers of all harms of a book."""
        for harm in HARMS:
            paper = harm_paper(one, harm)
            self.assertIs(lets_harm(one, harm, paper), can_be(one, harm), (one, harm))
            self.assertEqual(paper[0], 'run' if can_be(one, harm) else 'never')
            self.assertIs(type(paper), tuple)

    def reasons(self, one, harm, *words):
        """Checks that the harm is shut by these words, in order of its ways."""
        self.check(one)
        word, reasons = harm_paper(one, harm)
        self.assertEqual((word, [reason[0] for reason in reasons]), ('never', list(words)))
        return reasons

    def test_examples(self):
        found = [lets_harm(BOOK, 'missed', harm_paper(BOOK, 'missed')),
                 lets_harm(SAFE, 'missed', harm_paper(SAFE, 'missed'))]
        self.assertEqual(found, [True, False])
        for one in (BOOK, LONGER, SAFE):
            self.check(one)

    def test_by_name(self):
        self.assertIs(lets_harm(BOOK, 'missed', harm_paper(harm='missed', book=BOOK)), True)
        self.assertIs(lets_harm(SAFE, 'missed', harm_paper(harm='missed', book=SAFE)), False)

    def test_each_reason(self):
        self.reasons(SAFE, 'missed', 'apart', 'apart', 'kept', 'counts')
        self.reasons(SAFE, 'joined', 'apart')
        self.reasons(SAFE, 'twice', 'copies')
        self.reasons(book(copies=2, memory=3), 'twice', 'kept')
        self.reasons(book(n=1, wait=0, room=1), 'missed', 'apart', 'parts', 'parts', 'parts')
        self.reasons(book(n=1, wait=99, room=1), 'joined', 'parts')
        self.reasons(book(room=4), 'missed', 'apart', 'apart', 'kept', 'numbers')
        self.reasons(book(a=1, numbers=9, late=4, wait=4, room=9), 'missed', 'apart', 'apart', 'kept', 'numbers')
        for drop in DROPS:
            self.reasons(book(numbers=60, room=7, wait=9, drop=drop), 'missed', 'apart', 'apart', 'kept', 'counts')

    def test_gap_at_the_bounds(self):
        # reach is 8 and late 3: the gap is 5, which is greater than 4 alone.
        for wait, memory in product((3, 4, 5), (3, 4, 5)):
            one = book(wait=wait, memory=memory)
            self.check(one)
            self.assertIs(can_be(one, 'missed'), wait == 5 or memory == 5)
        self.reasons(book(wait=4, memory=4, room=3), 'missed', 'apart', 'apart', 'kept', 'counts')

    def test_counts_by_every_rule(self):
        for drop, a, late, wait in product(DROPS, (1, 2, 3, 7), range(8), range(10)):
            for room in range(1, 19):
                self.check(book(a=a, numbers=30, late=late, wait=wait, room=room, drop=drop))

    def test_many_books(self):
        some = product((1, 2), (1, 2), (1, 2), (1, 2, 4, 9), (None, 3, 5), (0, 2, 3), (0, 2, 3), (0, 2, 3), (1, 2, 4))
        for k, (a, n, copies, numbers, pause, late, wait, memory, room) in enumerate(some):
            self.check(book(a, a + 1, n, copies, numbers, pause, 1, late, wait, memory, room, DROPS[k % 3]))

    def test_any_books(self):
        draws = Draws(61)
        for _ in range(500):
            self.check(any_book(draws))

    def test_limits(self):
        for drop, a, wait, numbers in product(DROPS, (1, 7, 60), (0, 400), (1, 60)):
            self.check(((a, 60, 60, 60, numbers, None), (400, 400), (wait, 400, 60, drop)))
            self.check(((a, 60, 2, 1, numbers, 400), (0, 0), (wait, 0, 60, drop)))

    def test_beyond_the_limits(self):
        # No rows are counted where a text has one part, or there is room for all numbers.
        one = ((1, 1, 1, 1, 10 ** 59, None), (0, 10 ** 50), (0, 0, 1, 'eldest'))
        self.reasons(one, 'missed', 'apart', 'parts', 'parts', 'parts')
        one = ((1, 1, 2, 1, 10 ** 59, None), (0, 10 ** 50), (10 ** 50, 0, 10 ** 59, 'newest'))
        self.reasons(one, 'missed', 'apart', 'apart', 'kept', 'numbers')

    def test_runs_are_those_of_the_fewest_arrivals(self):
        # Any run with the harm would do; this one comes from harm_run.
        self.assertEqual(len(harm_paper(BOOK, 'missed')[1][1]), told_harm_size(BOOK, 'missed'))

    def test_wrong_words(self):
        for thing in NO_BOOKS + ('late', 'crowded', 'Missed', 'missed ', ['missed'], ('missed',), LiveHearer(BOOK)):
            self.not_usable('harm', harm_paper, BOOK, thing)
            self.not_usable('harm', harm_paper, SAFE, thing)


if __name__ == '__main__':
    unittest.main()
