import unittest
from itertools import product

from pieceswindow.errors import InvalidPaper
from pieceswindow.forms import can_be, can_be_alone, crowd_of, harms_that_can
from pieceswindow.harmchecker import lets_harm
from pieceswindow.harms import harms_of
from pieceswindow.live import LiveHearer
from tests.models import Draws, any_book, any_run
from tests.samples import BOOK, LONGER, NO_BOOKS, NO_NUMBERS, SAFE, ErrorChecks, nested, replaced
from tests.test_harms import LONG, PAIRED
from tests.test_hearing import run_of, wide
from tests.test_live import book
from tests.test_runchecker import RUN

WAYS = {'joined': ('joined',), 'twice': ('twice',), 'missed': ('swallowed', 'joined', 'late', 'crowded')}
WORDS = {'swallowed': ('apart',), 'joined': ('parts', 'apart'), 'late': ('parts', 'kept'), 'twice': ('copies', 'kept'),
         'crowded': ('parts', 'numbers', 'counts')}
COUNTS = ('counts', ((1, 1), (1, 1), (0, 1), (0, 1)))
REASONS = (('apart', (2,)), ('apart', (5,)), ('kept', ()), COUNTS)
NEVER = ('never', REASONS)


def counted(one):
    """The rows of counts of a book with the least counts, by the document's words."""
    (a, *_), (_, late), (wait, _, _, drop) = one
    rows = []
    for x in range(late + 1):
        elder = late - x + (wait if drop == 'newest' else 0)
        younger = x + (0 if drop == 'newest' else min(wait, late - x))
        rows.append((elder // a, younger // a))
    return tuple(rows)


def shutting(one, way):
    """Any reason that should shut a way of a book, or None."""
    (a, _, n, copies, numbers, pause), (_, late), (wait, memory, room, _) = one
    reach = numbers * a if pause is None else min(numbers * a, pause)
    if way in ('swallowed', 'joined'):
        if way == 'joined' and n == 1:
            return ('parts', ())
        return ('apart', (reach - late,)) if reach - late > (memory if way == 'swallowed' else wait) else None
    if way == 'twice':
        return ('copies', ()) if copies == 1 else ('kept', ()) if late <= memory else None
    if n == 1:
        return ('parts', ())
    if way == 'late':
        return ('kept', ()) if late <= wait else None
    if room >= numbers:
        return ('numbers', ())
    return ('counts', counted(one)) if max(map(sum, counted(one))) < room else None


class TestShapes(ErrorChecks, unittest.TestCase):

    def test_examples(self):
        self.assertIs(lets_harm(SAFE, 'missed', NEVER), False)
        self.invalid_paper('rows', 1, lets_harm, SAFE, 'missed',
                           ('never', (('apart', (2,)), ('apart', (6,)), ('kept', ()), COUNTS)))
        self.invalid_paper('word', 0, lets_harm, BOOK, 'twice', ('never', (('parts', ()),)))
        self.assertIs(lets_harm(BOOK, 'missed', ('run', RUN)), True)

    def test_by_name(self):
        self.assertIs(lets_harm(thing=NEVER, harm='missed', book=SAFE), False)

    def test_harm(self):
        for thing in NO_BOOKS + ('late', 'crowded', 'Missed', ('missed',), ['missed'], LiveHearer(BOOK), 0):
            self.not_usable('harm', lets_harm, SAFE, thing, NEVER)
            self.not_usable('harm', lets_harm, SAFE, thing, None)

    def test_shape(self):
        shapes = (
            RUN, REASONS, ('run',), ('never',), ('run', RUN, ()), list(NEVER), ['run', RUN], ('Run', RUN), ('', RUN),
            ('runs', RUN), (None, RUN), (True, RUN), (['run'], RUN), (('run',), RUN), (RUN, 'run'), (REASONS, 'never'),
            ('never', list(REASONS)), ('never', None), ('never', ''), ('never', 0), ('never', ()), ('never', RUN),
            ('never', REASONS[:3]), ('never', REASONS + (('kept', ()),)), ('never', REASONS, 0), ('always', REASONS),
            ('never', 'kept'), ('never', {}), LiveHearer(BOOK), ('never', LiveHearer(BOOK)))
        for thing in NO_BOOKS + shapes:
            self.invalid_paper('shape', -1, lets_harm, SAFE, 'missed', thing)
        for thing in NO_BOOKS + (NEVER, ('never', ()), ('never', (('copies', ()),) * 2)):
            self.invalid_paper('shape', -1, lets_harm, SAFE, 'twice', thing)
            self.invalid_paper('shape', -1, lets_harm, SAFE, 'joined', thing)

    def test_shape_of_each_reason(self):
        for k in range(4):
            word, rows = REASONS[k]
            for reason in NO_BOOKS + (word, rows, (word,), (word, rows, ()), [word, rows], (rows, word),
                                      (word, list(rows)), (word, None), (word, 0), (word, ''), (None, rows),
                                      (True, rows), ([word], rows),
                                      ((word,), rows), (word, word), (rows, rows), ((word, rows),), nested(28)):
                self.invalid_paper('shape', -1, lets_harm, SAFE, 'missed', ('never', replaced(REASONS, k, reason)))

    def test_shape_comes_first(self):
        for k in range(3):
            reasons = replaced(replaced(REASONS, k, ('x', ())), 3, ('counts', []))
            self.invalid_paper('shape', -1, lets_harm, SAFE, 'missed', ('never', reasons))

    def test_run_and_any_value(self):
        for thing in NO_BOOKS + (RUN[0], list(RUN), REASONS):
            self.invalid_paper('shape', -1, lets_harm, BOOK, 'missed', ('run', thing))


class TestRuns(ErrorChecks, unittest.TestCase):

    def run_paper(self, one, run, harms):
        for harm in ('joined', 'missed', 'twice'):
            if harm in harms:
                self.assertIs(lets_harm(one, harm, ('run', run)), True)
            else:
                self.invalid_paper('harm', -1, lets_harm, one, harm, ('run', run))

    def test_each_harm(self):
        self.run_paper(BOOK, RUN, ('missed',))
        self.run_paper(LONG, PAIRED, ('joined', 'missed'))
        self.run_paper(BOOK, PAIRED, ())
        self.run_paper(BOOK, ((), ()), ())
        one = wide()
        self.run_paper(one, run_of(one, (10, 0, 0), (10, 0, 1), (11, 0, 0), (11, 0, 1)), ('twice',))
        self.run_paper(one, run_of(one, (10, 0, 0), (10, 0, 1)), ())
        one = wide(numbers=2)
        self.run_paper(one, run_of(one, (10, 0, 0), (10, 2, 1)), ('joined',))

    def test_errors_of_runs(self):
        self.invalid_paper('begin', 1, lets_harm, BOOK, 'missed', ('run', (replaced(RUN[0], 1, (2, True)), RUN[1])))
        self.invalid_paper('pace', 1, lets_harm, BOOK, 'missed', ('run', (((0, 0), (4, 1)), ())))
        self.invalid_paper('number', 1, lets_harm, BOOK, 'missed', ('run', (((0, 0), (2, 2)), ())))
        self.invalid_paper('arrival', 4, lets_harm, BOOK, 'twice', ('run', (RUN[0], RUN[1][:4] + ((6, 2, 2),))))
        self.invalid_paper('span', 0, lets_harm, BOOK, 'twice', ('run', (RUN[0], ((9, 0, 0),))))
        self.invalid_paper('order', 1, lets_harm, BOOK, 'joined', ('run', (RUN[0], ((4, 1, 0), (3, 1, 1)))))
        self.invalid_paper('copy', 1, lets_harm, BOOK, 'joined', ('run', (RUN[0], ((3, 1, 0), (3, 1, 0)))))

    def test_runs_of_other_books(self):
        self.invalid_paper('pace', 1, lets_harm, book(a=3), 'missed', ('run', RUN))
        self.invalid_paper('harm', -1, lets_harm, SAFE, 'missed', ('run', RUN))

    def test_runs_of_any_book(self):
        draws = Draws(41)
        for _ in range(200):
            one = any_book(draws)
            run = any_run(draws, one, lost=9)
            self.run_paper(one, run, harms_of(one, run))


class TestReasons(ErrorChecks, unittest.TestCase):

    def reasons(self, one, harm):
        """A reason for each way of the harm, where there is one; otherwise one that does not hold."""
        return tuple(shutting(one, way) or (WORDS[way][0], (-1,)) for way in WAYS[harm])

    def reason(self, one, way, reason, word=None, harm=None):
        """Checks one reason for a way, beside others: that it holds, or the word that is told of it."""
        harm = harm or (way if way in ('joined', 'twice') else 'missed')
        k = WAYS[harm].index(way)
        paper = ('never', replaced(self.reasons(one, harm), k, reason))
        if word is None:
            self.assertIs(lets_harm(one, harm, paper), False, (one, paper))
        else:
            self.invalid_paper(word, k, lets_harm, one, harm, paper)

    def test_words_of_other_ways(self):
        for harm, ways in WAYS.items():
            for way in ways:
                for word in ('parts', 'copies', 'kept', 'apart', 'numbers', 'counts', '', 'Parts', 'late', way):
                    if word not in WORDS[way]:
                        for rows in ((), (5,), COUNTS[1], (None,)):
                            self.reason(SAFE, way, (word, rows), 'word', harm)

    def test_parts(self):
        # With n 1 all ways but swallowed are shut by parts.
        one = book(n=1, late=9, wait=0, room=1, memory=0, numbers=9)
        for way in ('joined', 'late', 'crowded'):
            self.reason(one, way, ('parts', ()), None, 'missed')
            for rows in ((0,), (1,), ((),), (None,), COUNTS[1]):
                self.reason(one, way, ('parts', rows), 'rows', 'missed')
            self.reason(SAFE, way, ('parts', ()), 'rows', 'missed')
        self.reason(one, 'joined', ('parts', ()))
        self.reason(LONGER, 'joined', ('parts', ()), 'rows')

    def test_copies(self):
        self.reason(BOOK, 'twice', ('copies', ()))
        self.reason(book(copies=2), 'twice', ('copies', ()), 'rows')
        for rows in ((0,), (1,), ((),), (None,)):
            self.reason(BOOK, 'twice', ('copies', rows), 'rows')

    def test_kept_of_late(self):
        for wait, word in ((3, None), (4, None), (2, 'rows'), (0, 'rows')):
            self.reason(book(room=9, wait=wait), 'late', ('kept', ()), word)
        self.reason(book(room=9, wait=2, memory=9, numbers=60), 'late', ('kept', ()), 'rows')
        self.reason(SAFE, 'late', ('kept', (3,)), 'rows')
        self.reason(SAFE, 'late', ('kept', ((),)), 'rows')

    def test_kept_of_twice(self):
        for memory, word in ((3, None), (4, None), (2, 'rows'), (0, 'rows')):
            self.reason(book(copies=2, memory=memory), 'twice', ('kept', ()), word)
        self.reason(book(copies=2, memory=2, wait=9), 'twice', ('kept', ()), 'rows')
        self.reason(book(memory=3), 'twice', ('kept', (3,)), 'rows')

    def test_apart(self):
        # reach is 8 and late 3: gaps are at most 5.
        for way, more in (('swallowed', 'memory'), ('joined', 'wait')):
            for kept in (3, 4):
                one = book(room=9, **{more: kept})
                for gap in range(-1, 8):
                    self.reason(one, way, ('apart', (gap,)), None if kept < gap <= 5 else 'rows', 'missed')
            self.reason(book(room=9, wait=3, memory=0), way, ('apart', (6,)), 'rows', 'missed')
        for gap in range(3, 8):
            self.reason(book(wait=4), 'joined', ('apart', (gap,)), None if gap == 5 else 'rows')
            self.reason(book(wait=5), 'joined', ('apart', (gap,)), 'rows')
            self.reason(book(wait=3, pause=7), 'joined', ('apart', (gap,)), None if gap == 4 else 'rows')

    def test_apart_of_the_wrong_bound(self):
        one = book(room=9, wait=4, memory=0)
        self.reason(one, 'swallowed', ('apart', (1,)))
        self.reason(one, 'joined', ('apart', (1,)), 'rows')
        one = book(room=9, wait=3, memory=4)
        self.reason(one, 'swallowed', ('apart', (4,)), 'rows')
        self.reason(one, 'joined', ('apart', (4,)))

    def test_apart_below_zero(self):
        # The gap that there is can be less than 0, but no wait is.
        one = book(numbers=1, late=9, room=1)
        for gap in (-8, -7, -6, 0):
            self.reason(one, 'joined', ('apart', (gap,)), 'rows')

    def test_rows_of_apart(self):
        for way in ('swallowed', 'joined'):
            for rows in ((), (5, 5), ((5,),), ([5],), ('5',), (None,), (True,), (False,), (5, None), ((),)):
                self.reason(SAFE, way, ('apart', rows), 'rows', 'missed')
            for thing in NO_NUMBERS:
                if thing != -1:
                    self.reason(SAFE, way, ('apart', (thing,)), 'rows', 'missed')

    def test_true_is_not_one(self):
        one = book(numbers=2, late=3, wait=0, memory=0, n=1)
        self.reason(one, 'swallowed', ('apart', (1,)))
        self.reason(one, 'swallowed', ('apart', (True,)), 'rows')
        self.reason(SAFE, 'crowded', ('counts', ((1, True),) + COUNTS[1][1:]), 'rows')
        self.reason(SAFE, 'crowded', ('counts', ((True, 1),) + COUNTS[1][1:]), 'rows')
        self.reason(SAFE, 'crowded', ('counts', COUNTS[1][:2] + ((False, 1),) + COUNTS[1][3:]), 'rows')

    def test_numbers(self):
        for room, numbers, word in ((4, 4, None), (5, 4, None), (3, 4, 'rows'), (1, 4, 'rows'), (1, 1, None)):
            one = book(room=room, numbers=numbers, late=0, wait=0, memory=0)
            self.reason(one, 'crowded', ('numbers', ()), word)
        self.reason(book(room=9), 'crowded', ('numbers', (9,)), 'rows')
        self.reason(book(room=9), 'crowded', ('numbers', ((),)), 'rows')

    def test_counts(self):
        for drop, late, wait in product(('eldest', 'newest', 'slowest'), (0, 1, 3, 6), (0, 1, 2, 3, 5, 6, 8)):
            # With n 1 the ways ahead are shut by parts, also where late is greater than wait.
            more = {'n': 2 if late <= wait else 1, 'drop': drop, 'late': late, 'wait': wait, 'memory': 0, 'numbers': 60}
            rows = counted(book(**more))
            crowd = max(map(sum, rows))
            self.assertEqual(crowd, crowd_of(book(**more)))
            self.reason(book(room=crowd + 1, **more), 'crowded', ('counts', rows))
            self.reason(book(room=crowd + 2, **more), 'crowded', ('counts', rows))
            if crowd > 0:
                self.reason(book(room=crowd, **more), 'crowded', ('counts', rows), 'rows')
            for x, k in product(range(late + 1), (0, 1)):
                less, greater = [replaced(rows[x], k, rows[x][k] + by) for by in (-1, 1)]
                for room in (crowd + 1, crowd + 2):
                    one = book(room=room, **more)
                    self.reason(one, 'crowded', ('counts', replaced(rows, x, less)), 'rows')
                    word = None if sum(greater) < room else 'rows'
                    self.reason(one, 'crowded', ('counts', replaced(rows, x, greater)), word)

    def test_counts_by_hand(self):
        # Paces from 2 on, late 3, wait 4: by "newest" others are elder by 7 - x, younger by x.
        one = book(room=4, drop='newest')
        rows = ((3, 0), (3, 0), (2, 1), (2, 1))
        self.reason(one, 'crowded', ('counts', rows))
        self.reason(book(room=3, drop='newest'), 'crowded', ('counts', rows), 'rows')
        self.reason(one, 'crowded', COUNTS, 'rows')
        self.reason(book(room=3), 'crowded', ('counts', rows), 'rows')
        for drop in ('eldest', 'slowest'):
            self.reason(book(room=3, drop=drop), 'crowded', COUNTS)
            self.reason(book(room=2, drop=drop), 'crowded', COUNTS, 'rows')
        short = book(room=3, wait=3, late=3)
        self.reason(short, 'crowded', COUNTS)
        self.reason(book(room=3, a=3), 'crowded', ('counts', ((1, 1), (0, 1), (0, 1), (0, 1))))
        self.reason(book(room=3, a=3), 'crowded', ('counts', ((0, 1), (0, 1), (0, 1), (0, 1))), 'rows')
        self.reason(book(room=3, a=4), 'crowded', ('counts', ((0, 0),) * 4))
        self.reason(book(room=1, a=4), 'crowded', ('counts', ((0, 0),) * 4))
        self.reason(book(room=1, a=4), 'crowded', ('counts', ((0, 0),) * 3 + ((0, 1),)), 'rows')

    def test_wait_less_than_late(self):
        # Where late is greater than wait the way late is open: its own row is told only behind that.
        one = book(room=9, wait=1, numbers=60)
        reasons = self.reasons(one, 'missed')
        self.invalid_paper('rows', 2, lets_harm, one, 'missed', ('never', reasons[:2] + (('kept', ()),) + reasons[3:]))

    def test_rows_of_counts(self):
        rows = COUNTS[1]
        for other in ((), rows[:3], rows + ((0, 0),), rows + ((0, 1),), rows[1:], (rows,), rows[:3] + (None,), (5,)):
            self.reason(SAFE, 'crowded', ('counts', other), 'rows')
        for x in range(4):
            for row in (None, True, 0, '', (), (0,), (1,), (1, 1, 0), [1, 1], (-1, 1), (1, -1), (0, None), ('0', 1),
                        ((1,), 1), ([], 1), (1, []), nested(27), (10 ** 59, 0), (0, 10 ** 59)):
                self.reason(SAFE, 'crowded', ('counts', replaced(rows, x, row)), 'rows')
            for thing in NO_NUMBERS:
                self.reason(SAFE, 'crowded', ('counts', replaced(rows, x, (1, thing))), 'rows')

    def test_counts_of_a_long_road(self):
        one = book(a=7, b=7, late=400, wait=400, memory=400, numbers=200, room=2 * (400 // 7) + 1)
        self.reason(one, 'crowded', ('counts', counted(one)))
        self.reason(book(a=7, late=400, wait=400, memory=0, numbers=200, room=114), 'crowded', ('counts', counted(one)),
                    'rows')

    def test_the_first_of_several(self):
        wrong = (('kept', ()), ('apart', (6,)), ('x', ()), ('counts', ()))
        self.invalid_paper('word', 0, lets_harm, SAFE, 'missed', ('never', wrong))
        self.invalid_paper('rows', 0, lets_harm, SAFE, 'missed', ('never', (('apart', ()),) + wrong[1:]))
        self.invalid_paper('rows', 1, lets_harm, SAFE, 'missed', ('never', REASONS[:1] + wrong[1:]))
        self.invalid_paper('word', 2, lets_harm, SAFE, 'missed', ('never', REASONS[:2] + wrong[2:]))
        self.invalid_paper('rows', 3, lets_harm, SAFE, 'missed', ('never', REASONS[:3] + wrong[3:]))

    def test_just_where_no_harm_can_be(self):
        for sender in product((1, 2), (1, 2), (1, 2), (1, 3), (None, 4)):
            a, n, copies, numbers, pause = sender
            for late, wait, memory, room in product((0, 2, 3), (0, 2, 3), (0, 2, 3), (1, 2, 3)):
                drop = ('eldest', 'newest', 'slowest')[(late + wait + memory + room) % 3]
                one = ((a, a + 1, n, copies, numbers, pause), (1, late), (wait, memory, room, drop))
                for harm, ways in WAYS.items():
                    paper = ('never', self.reasons(one, harm))
                    if harm in harms_that_can(one):
                        self.assertRaises(InvalidPaper, lets_harm, one, harm, paper)
                    else:
                        self.assertIs(lets_harm(one, harm, paper), can_be(one, harm))
                for way in WAYS['missed']:
                    self.assertIs(shutting(one, way) is None, can_be_alone(one, way))


if __name__ == '__main__':
    unittest.main()
