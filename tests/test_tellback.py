import unittest
from itertools import product

from pieceswindow.errors import Shut
from pieceswindow.live import LiveHearer
from pieceswindow.runchecker import lets_run
from pieceswindow.spanchecker import lets_spans
from pieceswindow.spanpapers import span_paper
from pieceswindow.tellback import spans
from tests.models import Draws
from tests.samples import BOOK, NO_BOOKS, NO_INTEGERS, NO_NUMBERS, ROAD, SENDER, ErrorChecks, replaced

HEARD = ((0, 0, 5), (1, 1, 6), (2, 0, 11))

# No heard of SENDER, each for one reason.
NO_HEARDS = NO_BOOKS + (
    list(HEARD), HEARD[::-1], (HEARD[1], HEARD[0]), HEARD[:1] * 2, HEARD[:2] + HEARD[1:], HEARD[0], SENDER,
    ((0, 0, 5), (0, 0, 6)), ((0, 0, 5), (0, 1, 4), (0, 1, 5)), ((0, 2, 5),), ((0, 1, 6), (0, 0, 5)), ((-1, 0, 5),),
    ((0, -1, 5),), ((0, 0, 5, 0),), ((0, 0),), ([0, 0, 5],), ((True, 0, 5),), ((0, False, 5),), ((0, 0, True),),
    ((0, 0, None),), (('0', 0, 5),), ((0, 0, 5), None), ((0, 0, 5), [1, 1, 6]), HEARD + (5,), LiveHearer(BOOK))


def all_begins(sender, road, heard):
    """The beginnings of the texts from the least to the greatest one that was heard, of all runs that have it."""
    a, b = sender[:2]
    d, late = road
    least, greatest = heard[0][0], heard[-1][0]
    for first in range(heard[0][2] - d - late, heard[0][2] - d + 1):
        for gaps in product(range(a, b + 1), repeat=greatest - least):
            begins = [first]
            for gap in gaps:
                begins.append(begins[-1] + gap)
            if all(d <= moment - begins[text - least] <= d + late for text, _, moment in heard):
                yield tuple(begins)


def told_spans(sender, road, heard):
    """spans by all runs gone through, or None."""
    found = list(all_begins(sender, road, heard))
    return tuple((min(column), max(column)) for column in zip(*found)) if found else None


def shut_out(sender, road, one, two):
    """Whether two triples shut each other out, as [55] says it."""
    (i, _, t), (j, _, u) = sorted((one, two))
    a, b = sender[:2]
    return u - t < (j - i) * a - road[1] or u - t > (j - i) * b + road[1]


def any_heard(draws, sender, road, texts=4, apart=0):
    """What was heard of some texts, most of it as a run has it, and each moment wrong by apart at the most."""
    (a, b, n, copies, *_), (d, late) = sender, road
    heard = set()
    begin = draws.between(-9, 9)
    for text in range(draws.below(3), draws.below(3) + texts):
        for part in range(n):
            for _ in range(draws.below(copies + 1)):
                heard.add((text, part, begin + d + draws.between(0, late) + draws.between(-apart, apart)))
        begin += draws.between(a, b)
    return tuple(sorted(heard)) or ((0, 0, begin),)


def any_sender(draws):
    a = draws.between(1, 3)
    b, n, copies, numbers = a + draws.below(3), draws.between(1, 3), draws.between(1, 2), draws.between(1, 4)
    return (a, b, n, copies, numbers, draws.one((None, a, 9)))


class TestSpans(ErrorChecks, unittest.TestCase):

    def check(self, sender, road, heard):
        """Checks spans against all runs gone through, and span_paper by its checker; whether there is a run."""
        told = told_spans(sender, road, heard)
        paper = span_paper(sender, road, heard)
        self.assertIs(lets_spans(sender, road, heard, paper), told is not None, (sender, road, heard))
        if told is not None:
            self.assertEqual(spans(sender, road, heard), told, (sender, road, heard))
            self.assertEqual((paper[0], tuple(row[:2] for row in paper[1])), ('spans', told))
            return True
        self.assertEqual(paper[0], 'shut')
        self.shut(sender, road, heard)
        return False

    def shut(self, sender, road, heard):
        """Checks that Shut is raised with a pair that no run has."""
        with self.assertRaises(Shut) as held:
            spans(sender, road, heard)
        self.assertIs(type(held.exception), Shut)
        ring = held.exception.ring
        self.assertEqual((type(ring), len(ring)), (tuple, 2))
        one, two = ring
        self.assertLess(heard.index(one), heard.index(two))
        self.assertTrue(shut_out(sender, road, one, two), (sender, road, ring))
        self.assertEqual(list(all_begins(sender, road, ring)), [])

    def test_examples(self):
        found = [spans(SENDER, ROAD, HEARD), spans(SENDER, ROAD, HEARD[:2]),
                 spans(SENDER, ROAD, ((0, 0, 5), (2, 0, 11)))]
        self.assertEqual(found, [((1, 3), (4, 5), (7, 8)), ((1, 3), (3, 5)), ((1, 4), (4, 7), (7, 10))])
        self.raises(Shut, {'ring': ((1, 1, 6), (2, 0, 14))}, spans, SENDER, ROAD, ((0, 0, 5), (1, 1, 6), (2, 0, 14)))

    def test_by_name(self):
        self.assertEqual(spans(heard=HEARD, road=ROAD, sender=SENDER), ((1, 3), (4, 5), (7, 8)))
        self.assertEqual(span_paper(heard=HEARD, road=ROAD, sender=SENDER)[0], 'spans')

    def test_one_text(self):
        self.assertEqual(spans(SENDER, ROAD, ((0, 0, 5),)), ((1, 4),))
        self.assertEqual(spans(SENDER, ROAD, ((7, 0, 5), (7, 1, 8))), ((4, 4),))
        self.assertEqual(spans(SENDER, ROAD, ((7, 0, 5), (7, 1, 7))), ((3, 4),))
        self.raises(Shut, {'ring': ((7, 0, 5), (7, 1, 9))}, spans, SENDER, ROAD, ((7, 0, 5), (7, 1, 9)))
        self.raises(Shut, {'ring': ((7, 0, 9), (7, 1, 5))}, spans, SENDER, ROAD, ((7, 0, 9), (7, 1, 5)))
        self.assertEqual(spans(SENDER, (0, 0), ((39, 1, -5),)), ((-5, -5),))

    def test_copies_at_several_moments(self):
        sender = (2, 3, 2, 3, 4, None)
        heard = ((0, 0, 5), (0, 0, 6), (0, 0, 7), (0, 1, 6))
        self.assertEqual(spans(sender, ROAD, heard), ((3, 4),))
        self.assertTrue(self.check(sender, ROAD, heard))
        self.not_usable('heard', spans, sender, ROAD, ((0, 0, 5), (0, 0, 6), (0, 0, 7), (0, 0, 8)))
        self.not_usable('heard', spans, (2, 3, 2, 2, 4, None), ROAD, heard)
        self.not_usable('heard', spans, sender, ROAD, ((0, 0, 5), (0, 0, 5)))
        self.not_usable('heard', spans, sender, ROAD, ((0, 0, 6), (0, 0, 5)))
        self.assertEqual(spans((2, 3, 2, 10 ** 59, 4, None), ROAD, heard), ((3, 4),))

    def test_texts_between(self):
        heard = ((3, 0, 0), (7, 1, 10))
        self.assertEqual(spans(SENDER, ROAD, heard), ((-4, -1), (-2, 2), (0, 5), (3, 7), (6, 9)))
        self.assertTrue(self.check(SENDER, ROAD, heard))
        found = spans((2, 2, 2, 1, 4, None), (0, 0), ((0, 0, -3), (3, 0, 3)))
        self.assertEqual(found, ((-3, -3), (-1, -1), (1, 1), (3, 3)))

    def test_pairs_at_the_edge(self):
        # Two triples shut each other out exactly as [55] says.
        for sender, road in ((SENDER, ROAD), ((1, 4, 2, 2, 9, None), (0, 2)), ((3, 3, 2, 2, 1, 7), (2, 0))):
            a, b = sender[:2]
            late = road[1]
            for places in range(4):
                for gap in range(places * a - late - 2, places * b + late + 3):
                    heard = tuple(sorted(((2, 0, 5), (2 + places, 1, 5 + gap))))
                    told = places * a - late <= gap <= places * b + late
                    self.assertIs(self.check(sender, road, heard), told, heard)

    def test_pause_and_numbers_do_not_count(self):
        for numbers, pause in ((1, None), (60, None), (4, 2), (4, 3), (1, 400)):
            self.assertEqual(spans((2, 3, 2, 1, numbers, pause), ROAD, HEARD), ((1, 3), (4, 5), (7, 8)))

    def test_any_heard(self):
        draws = Draws(131)
        runs = 0
        for k in range(500):
            sender, road = any_sender(draws), (draws.below(3), draws.below(5))
            runs += self.check(sender, road, any_heard(draws, sender, road, apart=(0, 0, 1, 4)[k % 4]))
        self.assertGreater(runs, 200)
        self.assertLess(runs, 480)

    def test_late_shut_behind_several(self):
        draws = Draws(132)
        for _ in range(100):
            sender, road = any_sender(draws), (1, draws.below(4))
            heard = any_heard(draws, sender, road)
            last = (heard[-1][0] + 1, 0, heard[-1][2] + draws.between(-20, 20))
            self.check(sender, road, heard + (last,))

    def test_consequences(self):
        draws = Draws(133)
        for _ in range(150):
            sender, road = any_sender(draws), (draws.below(3), draws.below(6))
            heard = any_heard(draws, sender, road)
            found = spans(sender, road, heard)
            arrivals = tuple(sorted((moment, text - heard[0][0], part) for text, part, moment in heard))
            for ends in zip(*found):
                begins = tuple((moment, k % sender[4]) for k, moment in enumerate(ends))
                book = (sender, road, (0, 0, 1, 'eldest'))
                self.assertEqual(lets_run(book, (begins, arrivals)), (len(ends), len(heard)))
            for k in range(len(heard)):
                fewer = heard[:k] + heard[k + 1:]
                if fewer:
                    wider = dict(enumerate(spans(sender, road, fewer), fewer[0][0]))
                    for text, (low, high) in enumerate(found, heard[0][0]):
                        if text in wider:
                            self.assertLessEqual(wider[text][0], low)
                            self.assertGreaterEqual(wider[text][1], high)

    def test_great_values(self):
        great = 10 ** 58
        heard = ((0, 0, -great), (39, 59, great))
        sender = (1, great, 60, 60, 1, None)
        found = spans(sender, (400, 400), heard)
        self.assertEqual((len(found), found[0]), (40, (-great - 800, -great - 400)))
        self.assertEqual(found[39], (great - 800, great - 400))

    def test_many_arrivals(self):
        sender, road = (1, 60, 5, 2, 60, None), (400, 400)
        heard = tuple(sorted((k, part, 30 * k + 400 + 7 * part + copy) for k in range(40) for part in range(5)
                             for copy in range(2)))
        found = spans(sender, road, heard)
        self.assertEqual((len(heard), len(found)), (400, 40))
        self.assertIs(lets_spans(sender, road, heard, span_paper(sender, road, heard)), True)

    def test_kinds_of_results(self):
        found = spans(SENDER, ROAD, HEARD)
        self.assertEqual([type(each) for each in (found,) + found], [tuple] * 4)
        paper = span_paper(SENDER, ROAD, HEARD)
        self.assertEqual([type(each) for each in (paper, paper[1]) + paper[1]], [tuple] * 5)

    def test_wrong_values(self):
        for call in (spans, span_paper):
            for thing in NO_BOOKS + (ROAD, BOOK, list(SENDER), (2, 1, 2, 1, 4, None)):
                self.not_usable('sender', call, thing, ROAD, HEARD)
                self.not_usable('sender', call, thing, None, None)
            for thing in NO_BOOKS + (SENDER, list(ROAD), (1, True), (-1, 3), (1,)):
                self.not_usable('road', call, SENDER, thing, HEARD)
                self.not_usable('road', call, SENDER, thing, ())
            for thing in NO_HEARDS:
                self.not_usable('heard', call, SENDER, ROAD, thing)
            for k in range(3):
                for thing in NO_BOOKS + NO_INTEGERS:
                    self.not_usable('heard', call, SENDER, ROAD, replaced(HEARD, k, thing))
                for thing in NO_NUMBERS:
                    self.not_usable('heard', call, SENDER, ROAD, replaced(HEARD, k, (thing,) + HEARD[k][1:]))
                    self.not_usable('heard', call, SENDER, ROAD, replaced(HEARD, k, (k, thing, 5)))
                for thing in NO_INTEGERS:
                    self.not_usable('heard', call, SENDER, ROAD, replaced(HEARD, k, HEARD[k][:2] + (thing,)))


if __name__ == '__main__':
    unittest.main()
