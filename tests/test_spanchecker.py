import unittest
from itertools import product

from pieceswindow.errors import InvalidPaper
from pieceswindow.live import LiveHearer
from pieceswindow.spanchecker import lets_spans
from pieceswindow.spanpapers import span_paper
from tests.models import Draws
from tests.samples import BOOK, NO_BOOKS, NO_INTEGERS, NO_NUMBERS, ROAD, SENDER, ErrorChecks, nested, replaced
from tests.test_tellback import HEARD, NO_HEARDS, any_heard, any_sender, shut_out, told_spans

ROWS = ((1, 3, 0, 1), (4, 5, 2, 1), (7, 8, 2, 1))
PAPER = ('spans', ROWS)
APART = ((0, 0, 5), (1, 1, 12))


def follows(sender, road, triple, k):
    """The pair of the least and the greatest beginning of text k by [57]."""
    m, _, t = triple
    (a, b), (d, late) = sender[:2], road
    if k >= m:
        return (t - d - late + (k - m) * a, t - d + (k - m) * b)
    return (t - d - late + (k - m) * b, t - d + (k - m) * a)


def told(sender, road, heard, rows):
    """What lets_spans tells of rows by form, by the document's list: True, or the pair of the error."""
    (a, b), (d, late) = sender[:2], road
    least = heard[0][0]
    for k, (low, high, i, j) in enumerate(rows):
        if low != follows(sender, road, heard[i], least + k)[0]:
            return ('low', k)
        if high != follows(sender, road, heard[j], least + k)[1]:
            return ('high', k)
    for k in range(1, len(rows)):
        if not all(a <= rows[k][end] - rows[k - 1][end] <= b for end in (0, 1)):
            return ('pace', k)
    for m, (text, _, moment) in enumerate(heard):
        if not all(d <= moment - rows[text - least][end] <= d + late for end in (0, 1)):
            return ('span', m)
    return True


class SpanChecks(ErrorChecks):

    def wrong(self, word, at, paper, heard=HEARD, sender=SENDER, road=ROAD):
        self.invalid_paper(word, at, lets_spans, sender, road, heard, paper)


class TestShapes(SpanChecks, unittest.TestCase):

    def test_examples(self):
        paper = span_paper(SENDER, ROAD, HEARD)
        found = [lets_spans(SENDER, ROAD, HEARD, PAPER), lets_spans(SENDER, ROAD, HEARD, paper),
                 lets_spans(SENDER, ROAD, APART, ('shut', 0, 1))]
        self.assertEqual(found, [True, True, False])
        self.wrong('pace', 2, ('spans', ((1, 3, 0, 1), (3, 5, 0, 1), (7, 8, 2, 1))))

    def test_by_name(self):
        self.assertIs(lets_spans(thing=PAPER, heard=HEARD, road=ROAD, sender=SENDER), True)
        self.assertIs(lets_spans(thing=('shut', 0, 1), heard=APART, road=ROAD, sender=SENDER), False)

    def test_shape(self):
        shapes = (ROWS, HEARD, ('spans',), ('spans', ROWS, ()), list(PAPER), ['spans', ROWS], ('Spans', ROWS),
                  ('shut', ROWS), (None, ROWS), (True, ROWS), (['spans'], ROWS), (ROWS, 'spans'), ('spans', list(ROWS)),
                  ('spans', None), ('spans', ''), ('spans', 0), ('spans', ()), ('spans', ROWS[:2]), ('spans', 0, 1),
                  ('spans', ROWS + ROWS[2:]), ('spans', ROWS[0]), ('', ROWS), ('spans', {}), ('spans', nested(28)),
                  LiveHearer(BOOK), ('spans', LiveHearer(BOOK)))
        for thing in NO_BOOKS + shapes:
            self.wrong('shape', -1, thing)
            self.wrong('shape', -1, thing, APART)

    def test_shape_of_rows(self):
        for k in range(3):
            low, high, i, j = ROWS[k]
            for row in NO_BOOKS + (list(ROWS[k]), ROWS[k][:3], ROWS[k] + (0,), (ROWS[k],)):
                self.wrong('shape', -1, ('spans', replaced(ROWS, k, row)))
            for thing in NO_INTEGERS:
                self.wrong('shape', -1, ('spans', replaced(ROWS, k, (thing, high, i, j))))
                self.wrong('shape', -1, ('spans', replaced(ROWS, k, (low, thing, i, j))))
            for thing in NO_NUMBERS + (3, 4, 10 ** 59):
                self.wrong('shape', -1, ('spans', replaced(ROWS, k, (low, high, thing, j))))
                self.wrong('shape', -1, ('spans', replaced(ROWS, k, (low, high, i, thing))))

    def test_shape_of_shut(self):
        self.assertIs(lets_spans(SENDER, ROAD, APART, ('shut', 0, 1)), False)
        for pair in ((0, 0), (1, 1), (1, 0), (0, 2), (2, 3), (-1, 1), (0, -1), (False, 1), (0, True), (0, None),
                     (None, 1), ('0', 1), ([0], 1), ((0,), 1), (0, 10 ** 59), (0, '1')):
            self.wrong('shape', -1, ('shut',) + pair, APART)
        for thing in (('shut',), ('shut', 0), ('shut', 0, 1, 2), ['shut', 0, 1], ('Shut', 0, 1), (None, 0, 1),
                      ('shut', (0, 1)), ('spans', 0, 1), (['shut'], 0, 1), (0, 1, 'shut'), (('shut',), 0, 1)):
            self.wrong('shape', -1, thing, APART)

    def test_a_row_for_each_text(self):
        heard = ((3, 0, 0), (5, 1, 5))
        rows = tuple(follows(SENDER, ROAD, heard[0], k) + (0, 0) for k in (3, 4, 5))
        for many in (0, 1, 2, 4):
            self.wrong('shape', -1, ('spans', (rows + rows)[:many]), heard)
        self.wrong('span', 0, ('spans', ((-4, 0, 0, 1), (-2, 2, 0, 1), (0, 4, 0, 1))), heard)

    def test_wrong_values(self):
        for thing in NO_BOOKS + (ROAD, BOOK, list(SENDER), (2, 1, 2, 1, 4, None)):
            self.not_usable('sender', lets_spans, thing, ROAD, HEARD, PAPER)
            self.not_usable('sender', lets_spans, thing, None, None, None)
        for thing in NO_BOOKS + (SENDER, list(ROAD), (1, True), (-1, 3), (1,)):
            self.not_usable('road', lets_spans, SENDER, thing, HEARD, PAPER)
            self.not_usable('road', lets_spans, SENDER, thing, (), None)
        for thing in NO_HEARDS:
            self.not_usable('heard', lets_spans, SENDER, ROAD, thing, PAPER)
            self.not_usable('heard', lets_spans, SENDER, ROAD, thing, None)


class TestSpans(SpanChecks, unittest.TestCase):

    def test_low_and_high(self):
        for k in range(3):
            low, high, i, j = ROWS[k]
            for other in (low - 1, low + 1, high):
                self.wrong('low', k, ('spans', replaced(ROWS, k, (other, high, i, j))))
            for other in (high - 1, high + 1, low):
                self.wrong('high', k, ('spans', replaced(ROWS, k, (low, other, i, j))))
            self.wrong('low', k, ('spans', replaced(ROWS, k, (low + 1, high + 1, i, j))))

    def test_each_element_for_each_row(self):
        for k, (i, j) in product(range(3), product(range(3), repeat=2)):
            low, high = follows(SENDER, ROAD, HEARD[i], k)[0], follows(SENDER, ROAD, HEARD[j], k)[1]
            rows = replaced(ROWS, k, (low, high, i, j))
            found = told(SENDER, ROAD, HEARD, rows)
            if found is True:
                self.assertIs(lets_spans(SENDER, ROAD, HEARD, ('spans', rows)), True)
            else:
                self.wrong(found[0], found[1], ('spans', rows))

    def test_pace(self):
        # From one element alone the lows follow on by a, the highs by b; a text of its own can break them.
        heard = ((0, 0, 5), (1, 0, 7), (2, 0, 10))
        good = ((1, 4, 0, 0), (3, 6, 1, 1), (6, 9, 2, 2))
        self.assertIs(lets_spans(SENDER, ROAD, heard, ('spans', good)), True)
        for moment, word in ((6, ('pace', 1)), (7, True), (8, True), (9, ('pace', 1))):
            heard = ((0, 0, 5), (1, 0, moment))
            rows = ((1, 4, 0, 0), (moment - 4, moment - 1, 1, 1))
            self.assertEqual(told(SENDER, ROAD, heard, rows), word)
            if word is True:
                self.assertIs(lets_spans(SENDER, ROAD, heard, ('spans', rows)), True)
            else:
                self.wrong('pace', 1, ('spans', rows), heard)

    def test_one_end_is_enough(self):
        heard = ((0, 0, 5), (0, 1, 6), (1, 0, 9), (1, 1, 10))
        # The lows alone, then the highs alone, are no pace apart.
        self.wrong('pace', 1, ('spans', ((1, 4, 0, 0), (5, 7, 2, 0))), heard)
        self.wrong('pace', 1, ('spans', ((2, 4, 1, 0), (5, 9, 2, 3))), heard)
        self.assertIs(lets_spans(SENDER, ROAD, heard, ('spans', ((3, 4, 3, 0), (6, 7, 3, 0)))), True)

    def test_span(self):
        # What follows from one of two elements of one text need not suit the other: by its low, and by its high.
        heard = ((0, 0, 5), (0, 1, 7))
        self.assertIs(lets_spans(SENDER, ROAD, heard, ('spans', ((3, 4, 1, 0),))), True)
        self.wrong('span', 1, ('spans', ((1, 4, 0, 0),)), heard)
        self.wrong('span', 0, ('spans', ((3, 6, 1, 1),)), heard)
        self.wrong('span', 0, ('spans', ((1, 6, 0, 1),)), heard)
        heard = ((0, 0, 5), (0, 1, 8))
        self.assertIs(lets_spans(SENDER, ROAD, heard, ('spans', ((4, 4, 1, 0),))), True)
        heard = ((0, 0, 5), (0, 1, 9))
        for i, j in product((0, 1), (0, 1)):
            rows = ((follows(SENDER, ROAD, heard[i], 0)[0], follows(SENDER, ROAD, heard[j], 0)[1], i, j),)
            found = told(SENDER, ROAD, heard, rows)
            self.wrong(found[0], found[1], ('spans', rows), heard)

    def test_the_first_of_several(self):
        self.wrong('low', 0, ('spans', ((0, 9, 0, 1), (0, 9, 0, 1), (0, 9, 0, 1))))
        self.wrong('high', 0, ('spans', ((1, 9, 0, 1), (0, 9, 0, 1), (0, 9, 0, 1))))
        self.wrong('low', 1, ('spans', (ROWS[0], (0, 9, 0, 1), (0, 9, 0, 1))))
        # The rows are told before the paces, and these before the moments.
        self.wrong('low', 2, ('spans', ((1, 3, 0, 1), (3, 5, 0, 1), (8, 8, 2, 1))))
        self.wrong('high', 2, ('spans', ((1, 3, 0, 1), (3, 5, 0, 1), (7, 9, 2, 1))))
        rows = tuple(follows(SENDER, ROAD, HEARD[0], k) + (0, 0) for k in range(3))
        self.wrong('span', 1, ('spans', rows))
        self.assertEqual(rows, ((1, 4, 0, 0), (3, 7, 0, 0), (5, 10, 0, 0)))

    def test_any_rows(self):
        draws = Draws(141)
        words = {}
        for _ in range(3000):
            sender, road = any_sender(draws), (draws.below(3), draws.below(5))
            heard = any_heard(draws, sender, road, texts=draws.between(1, 3), apart=draws.below(2))
            rows = []
            for k in range(heard[0][0], heard[-1][0] + 1):
                i, j = draws.below(len(heard)), draws.below(len(heard))
                if draws.below(3):
                    i = max(range(len(heard)), key=lambda at: follows(sender, road, heard[at], k)[0])
                    j = min(range(len(heard)), key=lambda at: follows(sender, road, heard[at], k)[1])
                low, high = follows(sender, road, heard[i], k)[0], follows(sender, road, heard[j], k)[1]
                rows.append((low + (draws.below(30) == 0), high - (draws.below(30) == 0), i, j))
            paper, found = ('spans', tuple(rows)), told(sender, road, heard, rows)
            words[found if found is True else found[0]] = words.get(found if found is True else found[0], 0) + 1
            if found is True:
                self.assertIs(lets_spans(sender, road, heard, paper), True)
                self.assertEqual(tuple(row[:2] for row in rows), told_spans(sender, road, heard))
            else:
                self.wrong(found[0], found[1], paper, heard, sender, road)
        for word in (True, 'low', 'high', 'pace', 'span'):
            self.assertGreater(words[word], 50, words)

    def test_great_values(self):
        great = 10 ** 59
        heard = ((10 ** 30, 0, great), (10 ** 30 + 1, 0, great + 2))
        rows = ((great - 4, great - 1, 0, 0), (great - 2, great + 1, 1, 1))
        self.assertIs(lets_spans(SENDER, ROAD, heard, ('spans', rows)), True)
        self.wrong('low', 0, ('spans', ((great - 5,) + rows[0][1:], rows[1])), heard)
        heard = ((0, 0, 5), (10 ** 59, 0, 5))
        self.assertIs(lets_spans(SENDER, ROAD, heard, ('shut', 0, 1)), False)
        self.wrong('shape', -1, ('spans', ((1, 4, 0, 0),) * 2), heard)


class TestShut(SpanChecks, unittest.TestCase):

    def test_at_the_edge(self):
        for places in range(4):
            for gap in range(-6, 16):
                heard = tuple(sorted(((3, 0, 0), (3 + places, 1, gap))))
                if shut_out(SENDER, ROAD, heard[0], heard[1]):
                    self.assertIs(lets_spans(SENDER, ROAD, heard, ('shut', 0, 1)), False)
                    self.assertIs(told_spans(SENDER, ROAD, heard), None)
                else:
                    self.wrong('shut', -1, ('shut', 0, 1), heard)
                    self.assertIsNot(told_spans(SENDER, ROAD, heard), None)

    def test_each_pair(self):
        heard = ((0, 0, 5), (1, 1, 6), (2, 0, 14))
        self.assertIs(lets_spans(SENDER, ROAD, heard, ('shut', 1, 2)), False)
        self.wrong('shut', -1, ('shut', 0, 1), heard)
        self.wrong('shut', -1, ('shut', 0, 2), heard)

    def test_any_pairs(self):
        draws = Draws(142)
        for _ in range(200):
            sender, road = any_sender(draws), (draws.below(3), draws.below(5))
            heard = any_heard(draws, sender, road, apart=3)
            for j in range(len(heard)):
                for i in range(j):
                    if shut_out(sender, road, heard[i], heard[j]):
                        self.assertIs(lets_spans(sender, road, heard, ('shut', i, j)), False)
                        self.assertEqual(span_paper(sender, road, heard)[0], 'shut')
                        self.assertRaises(InvalidPaper, lets_spans, sender, road, heard, PAPER)
                    else:
                        self.wrong('shut', -1, ('shut', i, j), heard, sender, road)


if __name__ == '__main__':
    unittest.main()
