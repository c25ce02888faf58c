import unittest

from pieceswindow.bookchanges import with_mark
from pieceswindow.booktexts import book_text
from pieceswindow.eventreadings import read_event, read_log
from pieceswindow.eventtexts import event_line, log_lines
from pieceswindow.live import LiveHearer
from pieceswindow.replaying import replayed
from tests.models import Draws, any_book, any_run
from tests.samples import BOOK, NO_BOOKS, ErrorChecks
from tests.test_live import behind
from tests.test_liveevents import EVENTS
from tests.test_replaying import HEAD, LOG, NO_LOGS

LINES = ['sender 2 3 2 1 4 -', 'road 1 3', 'hearer 4 1 2 eldest']


class TestTexts(ErrorChecks, unittest.TestCase):

    def test_examples(self):
        live = behind(BOOK, ('begin', 0, 0), ('begin', 2, 1), ('begin', 4, 2), ('hear', 4, 1, 0), ('hear', 4, 0, 0),
                      ('hear', 5, 2, 0), ('hear', 6, 1, 1), ('hearer', 4, 1, 1, 'newest'))
        found = [read_event('hear -3 0 1'), log_lines(live.log())[2:5], read_log(log_lines(live.log())) == live.log()]
        self.assertEqual(found, [('hear', -3, 0, 1), ['hearer 4 1 2 eldest', 'begin 0 0', 'begin 2 1'], True])

    def test_each_kind(self):
        self.assertEqual(event_line(event=('begin', 12, 3)), 'begin 12 3')
        self.assertEqual(event_line(('begin', -12, 0)), 'begin -12 0')
        self.assertEqual(event_line(('hear', 0, 39, 59)), 'hear 0 39 59')
        self.assertEqual(event_line(('hear', -1, 0, 7)), 'hear -1 0 7')
        for drop in ('eldest', 'newest', 'slowest'):
            self.assertEqual(event_line(('hearer', 400, 0, 60, drop)), 'hearer 400 0 60 ' + drop)

    def test_possible_or_not(self):
        self.assertEqual(event_line(('hear', 10 ** 9, 10 ** 9, 10 ** 9)), 'hear' + ' 1000000000' * 3)

    def test_numbers_of_many_digits(self):
        for digits in (59, 60, 61, 119, 120, 121, 4299, 4300, 4301, 9000):
            number, text = 10 ** (digits - 1), '1' + '0' * (digits - 1)
            self.assertEqual(event_line(('begin', number, number)), f'begin {text} {text}')
            self.assertEqual(event_line(('hear', -number, number, number)), f'hear -{text} {text} {text}')
            self.assertEqual(event_line(('hearer', number, number, number, 'newest')),
                             f'hearer {text} {text} {text} newest')

    def test_read_again(self):
        for event in EVENTS + (('begin', -(10 ** 60 - 1), 10 ** 60 - 1),):
            self.assertEqual(read_event(event_line(event)), event)
            self.assertEqual(event_line(read_event(event_line(event))), event_line(event))
        self.invalid_text(0, 1, read_event, event_line(('begin', 10 ** 60, 0)))
        self.invalid_text(0, 1, read_event, event_line(('begin', -10 ** 60, 0)))

    def test_no_events(self):
        for thing in NO_BOOKS + NO_LOGS + (LOG, ('begin', 0), ('begin', 0, -1), ('begin', True, 0), ['begin', 0, 0],
                                           'begin 0 0', ('hear', 0, 0), ('hearer', 4, 1, 0, 'eldest'),
                                           ('begin', 0, 0, 0), ('hearer', 4, 1, 2, 'late'), BOOK[2], LiveHearer(BOOK),
                                           (HEAD, 0, 0)):
            self.not_usable('event', event_line, thing)

    def test_logs(self):
        self.assertEqual(log_lines((HEAD,)), LINES)
        self.assertIs(type(log_lines((HEAD,))), list)
        self.assertEqual(log_lines(log=LOG), LINES + ['begin 0 0', 'begin 2 1', 'hear 3 0 1', 'hear 3 1 0',
                                                     'hearer 5 1 2 newest', 'hear 4 0 0'])
        self.assertEqual(log_lines((HEAD, ('hear', -9, 9, 9)))[3:], ['hear -9 9 9'])

    def test_logs_of_more_than_forty_events(self):
        log = (HEAD,) + (('begin', -5, 9),) * 100
        self.assertEqual(log_lines(log), LINES + ['begin -5 9'] * 100)
        self.assertEqual(read_log(log_lines(log)), log)

    def test_a_told_list_is_new(self):
        lines = log_lines(LOG)
        lines.append('x')
        lines[0] = 'y'
        self.assertEqual(log_lines(LOG)[0], LINES[0])
        self.assertEqual(len(log_lines(LOG)), 9)

    def test_logs_are_read_again(self):
        draws = Draws(51)
        for _ in range(100):
            one = any_book(draws)
            begins, arrivals = any_run(draws, one)
            events = [('begin',) + each for each in begins] + [('hear',) + each for each in arrivals]
            log = (('live', one),) + tuple(events[:40])
            self.assertEqual(read_log(log_lines(log)), log)
            self.assertEqual(log_lines(read_log(log_lines(log))), log_lines(log))
            self.assertEqual('\n'.join(log_lines(log)[:3]), book_text(one))
            self.assertEqual(' / '.join(log_lines(log)[3:]) or '-', str(replayed(log)))

    def test_large_books(self):
        one = with_mark(with_mark(BOOK, 10 ** 59), 10 ** 59)
        self.assertEqual('\n'.join(log_lines((('live', one),))), book_text(one))
        self.invalid_text(0, 5, read_log, log_lines((('live', one),)))

    def test_no_logs(self):
        for thing in NO_BOOKS + NO_LOGS + (LINES, '\n'.join(LINES), 'live', ('live', BOOK)):
            self.not_usable('log', log_lines, thing)


if __name__ == '__main__':
    unittest.main()
