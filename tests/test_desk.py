import unittest

from pieceswindow.bookclasses import Book
from pieceswindow.booktexts import book_text
from pieceswindow.desk import Desk
from tests.models import Draws, Model
from tests.samples import BOOK, NO_BOOKS, ErrorChecks, book_with
from tests.test_live import book

TEXT = book_text(BOOK)
# Rows that are none of those that a desk answers.
NO_ROWS = (
    '', ' ', '\n', '-', 'x', 'say', 'tally', 'undo 1', 'undo ', ' undo', 'undo\n', 'Undo', 'log ', ' log', 'log\n',
    'open ', 'open\n', 'open 0', 'next ', '\nnext', 'shown ', 'shown\n', 'harms ', 'harms\n', 'missed ', 'missed\n',
    'missed 0', 'remembered ', 'remembered\n', 'hearer ', 'hearer\n', ' hearer', 'HEARER', 'logs', 'lo', 'live',
    'of', 'of ', 'of  0', 'of 0 ', 'of 0\n', ' of 0', 'of 00', 'of 01', 'of -1', 'of -0', 'of +0', 'of x', 'of 0 0',
    'of ' + '1' * 61, 'of\n0', 'of -', 'bars', 'bars ', 'bars  begin 0 0', 'bars begin 0 0 ', 'bars begin 0 0\n',
    'bars undo', 'bars log', 'bars begin 0', 'bars begin 0 0 0', 'bars begin x 0', 'bars bars begin 0 0', 'bars x',
    'bars begin 0 0\nbegin 0 0', 'bars\nbegin 0 0', 'bars hearer', 'bars ' + TEXT, 'begin', 'begin 0', 'begin 0 0 ',
    'begin  0 0', 'begin 0 0\n', '\nbegin 0 0', ' begin 0 0', 'begin 0 -1', 'begin -0 0', 'begin 00 0', 'begin 0 00',
    'begin 0 0 0', 'begin 0 ' + '1' * 61, 'hear 0 0', 'hear 0 0 0 0', 'hear 0 0 -1', 'hear x 0 0',
    'hearer 4 1 0 eldest', 'hearer 4 1 2', 'hearer 4 1 2 late', 'hearer 4 1 2 eldest ', 'hearer 4 1 2 eldest\n',
    'hearer 0 0 0 newest',
    TEXT + '\n', '\n' + TEXT, TEXT + ' ', ' ' + TEXT, TEXT + '\nbegin 0 0', TEXT.replace('\n', ' '),
    TEXT.replace('\n', '\n\n'), TEXT.replace('road 1 3', 'road 1'), TEXT.replace('2 eldest', '0 eldest'),
    TEXT.replace('sender 2', 'sender 4'), TEXT.replace('-', '1'), '\n'.join(TEXT.split('\n')[:2]), 'sender 2 3 2 1 4 -',
    'begin 0 0\nbegin 2 1', 'log\nlog', 'log / log')


class TestDesk(ErrorChecks, unittest.TestCase):

    def said(self, desk, *pairs):
        """Checks the answers to rows, in order."""
        for row, answer in pairs:
            self.assertEqual(desk.say(row), answer, row)

    def desk(self, one, *rows):
        desk = Desk(one)
        for row in rows:
            desk.say(row)
        return desk

    def told(self, desk):
        """All that a desk tells without a change."""
        return [desk.say(row) for row in ('log', 'open', 'next', 'shown', 'harms', 'missed', 'remembered', 'hearer')]

    def test_examples(self):
        rows = ('begin 0 0', 'hear 1 0 0', 'hear 2 0 1', 'shown', 'remembered', 'bars hear 2 0 1', 'of 0', 'next')
        desk = Desk(BOOK)
        answers = ['0', 'opens', 'comes shows', '2 0 0,0', '0@2', 'copy', '1 1', '1 2 3']
        self.assertEqual([desk.say(row) for row in rows], answers)

    def test_errors_of_the_checker(self):
        for thing in NO_BOOKS + (list(BOOK), BOOK[:2]):
            self.invalid_paper('shape', -1, Desk, thing)
        self.invalid_paper('hearer', 2, Desk, book_with(2, 2, 0))
        self.assertEqual(Desk(book=BOOK).tally(), (0, 0))

    def test_before_anything(self):
        desk = Desk(BOOK)
        self.assertEqual(self.told(desk), ['-', '-', '-', '-', '-', '-', '-', '4 1 2 eldest'])
        self.nothing_to_undo(desk.say, 'undo')
        self.not_usable('text', desk.say, 'of 0')
        self.said(desk, ('bars begin 0 0', '-'), ('bars hear 0 0 0', 'text'), ('bars hearer 4 1 2 eldest', 'same'))
        self.assertEqual(Desk(BOOK).say(row='log'), '-')

    def test_answers_to_events(self):
        desk = Desk(book(copies=2, room=1, late=9, wait=9))
        self.said(desk, ('begin -1 0', '0'), ('begin 1 1', '1'), ('begin 3 2', '2'), ('hear 4 0 0', 'opens'),
                  ('hear 4 0 0', 'again'), ('hear 4 1 0', 'opens drops 0'), ('hear 5 1 1', 'comes shows'),
                  ('hear 6 1 1', 'swallowed'), ('hear 6 0 1', 'opens'), ('hearer 9 1 1 newest', '-'),
                  ('hear 7 2 0', 'refused'), ('hearer 9 1 9 newest', '-'), ('hear 7 2 0', 'opens'),
                  ('hearer 8 1 1 newest', '2'), ('log', 'begin -1 0 / begin 1 1 / begin 3 2 / hear 4 0 0 / '
                   'hear 4 0 0 / hear 4 1 0 / hear 5 1 1 / hear 6 1 1 / hear 6 0 1 / '
                   'hearer 9 1 1 newest / hear 7 2 0 / '
                   'hearer 9 1 9 newest / hear 7 2 0 / hearer 8 1 1 newest'))

    def test_comes_alone(self):
        desk = self.desk(book(n=3, late=9), 'begin 0 0', 'hear 1 0 0')
        self.said(desk, ('hear 2 0 1', 'comes'), ('hear 2 0 2', 'comes shows'))

    def test_opens_and_shows(self):
        desk = self.desk(book(n=1), 'begin 0 0')
        self.said(desk, ('hear 1 0 0', 'opens shows'), ('shown', '1 0 0'))

    def test_several_numbers_that_are_dropped(self):
        rows = ('begin 0 3', 'begin 2 0', 'begin 4 1', 'hear 5 2 0', 'hear 5 1 0', 'hear 6 0 0')
        desk = self.desk(book(late=9, wait=9, room=3), *rows)
        self.said(desk, ('hearer 9 1 1 slowest', '1 0'), ('undo', 'hearer 9 1 1 slowest'),
                  ('hearer 9 1 1 newest', '3 0'), ('hearer', '9 1 1 newest'))

    def test_what_is_told_behind_events(self):
        desk = self.desk(book(pause=5, copies=3, memory=9, room=3, late=9), 'begin 0 3', 'begin 2 0', 'begin 4 1',
                         'hear 5 0 1', 'hear 6 1 0', 'hear 6 0 0', 'hear 7 1 1', 'hear 8 2 1')
        self.assertEqual(self.told(desk), [
            'begin 0 3 / begin 2 0 / begin 4 1 / hear 5 0 1 / hear 6 1 0 / hear 6 0 0 / hear 7 1 1 / hear 8 2 1',
            '  1      8      8 -,2', '0 9 - / 2 6 7', '6 3 0,0 / 7 0 1,1', '-', '-', '0@7 3@6', '4 9 3 eldest'])
        self.said(desk, ('of 0', '1 1'), ('of 1', '1 1'), ('of 2', '0 1'))

    def test_several_rows_of_the_table(self):
        desk = self.desk(book(late=9), 'begin -2 0', 'begin 0 1', 'hear 1 1 1', 'hear 2 0 0')
        self.said(desk, ('open', '  1      1      1 -,1 /   0      2      2 0,-'))

    def test_harms(self):
        desk = self.desk(book(n=2, copies=3, numbers=1, late=9, wait=9, memory=0), 'begin 0 0', 'begin 2 0',
                         'hear 4 0 0', 'hear 4 1 1', 'hear 4 0 1', 'hear 4 1 0')
        self.said(desk, ('harms', 'joined missed'), ('missed', '0 1'), ('shown', '4 0 0,1'))
        for row in ('hear 5 0 0', 'hear 5 0 1', 'hear 6 0 0', 'hear 6 0 1'):
            desk.say(row)
        self.said(desk, ('harms', 'joined missed twice'), ('missed', '1'), ('shown', '4 0 0,1 / 5 0 0,0 / 6 0 0,0'))

    def test_next_with_two_stretches_of_one_number(self):
        desk = self.desk(book(pause=9), 'begin -30 3')
        self.said(desk, ('next', '0 -28 -27 / 0 -21 -'))

    def test_undo(self):
        desk = self.desk(BOOK, 'begin -4 0', 'hear -3 0 1', 'hearer 4 0 2 eldest')
        self.said(desk, ('undo', 'hearer 4 0 2 eldest'), ('undo', 'hear -3 0 1'), ('undo', 'begin -4 0'))
        self.nothing_to_undo(desk.say, 'undo')
        self.said(desk, ('begin 9 3', '0'))

    def test_bars(self):
        desk = self.desk(BOOK, 'begin 0 0', 'hear 2 0 0')
        told = self.told(desk)
        self.said(desk, ('bars begin 2 1', '-'), ('bars begin 2 2', 'pace'), ('bars begin 2 4', 'number'),
                  ('bars hear 2 0 1', '-'), ('bars hear 1 0 1', 'order'), ('bars hear 5 0 1', 'span'),
                  ('bars hear 2 0 2', 'part'), ('bars hear 2 0 0', 'copy'), ('bars hear 2 1 0', 'text'),
                  ('bars hearer 4 1 2 eldest', 'same'), ('bars hearer 4 1 2 newest', '-'))
        self.assertEqual(self.told(desk), told)

    def test_events_that_are_not_possible(self):
        desk = self.desk(BOOK, 'begin 0 0')
        told = self.told(desk)
        self.invalid_event(('begin', 2, 2), 'pace', desk.say, 'begin 2 2')
        self.invalid_event(('hear', -3, 7, 9), 'text', desk.say, 'hear -3 7 9')
        self.invalid_event(('hearer', 4, 1, 2, 'eldest'), 'same', desk.say, 'hearer 4 1 2 eldest')
        self.invalid_event(('begin', 0, 10 ** 60 - 1), 'number', desk.say, 'begin 0 ' + '9' * 60)
        self.assertEqual(self.told(desk), told)

    def test_forty_events(self):
        desk = self.desk(BOOK, *[f'begin {2 * k} {k % 4}' for k in range(40)])
        self.said(desk, ('bars begin 80 0', 'full'))
        self.invalid_event(('begin', 80, 0), 'full', desk.say, 'begin 80 0')

    def test_of(self):
        desk = self.desk(book(n=3, copies=9), 'begin 0 0', 'hear 1 0 2', 'hear 1 0 2', 'begin 2 1')
        self.said(desk, ('of 0', '0 0 2'), ('of 1', '0 0 0'))
        for row in ('of 2', 'of 10', 'of ' + '9' * 60):
            self.not_usable('text', desk.say, row)

    def test_lines_of_a_book(self):
        desk = self.desk(BOOK, 'begin 0 0', 'hear 2 0 0')
        other = ((3, 9, 1, 2, 60, 5), (0, 7), (9, 8, 7, 'slowest'))
        self.said(desk, (book_text(other), 'ok'), ('log', '-'), ('hearer', '9 8 7 slowest'), ('open', '-'))
        self.assertEqual(desk.tally(), (6, 6))
        self.nothing_to_undo(desk.say, 'undo')
        self.said(desk, ('begin 5 59', '0'), ('hear 5 0 0', 'opens shows'), (TEXT, 'ok'), (TEXT, 'ok'))
        self.assertEqual(self.told(desk), ['-', '-', '-', '-', '-', '-', '-', '4 1 2 eldest'])
        self.assertEqual(desk.tally(), (19, 19))

    def test_no_rows(self):
        desk = self.desk(BOOK, 'begin 0 0', 'hear 1 0 0')
        told, tally = self.told(desk), desk.tally()
        for many, row in enumerate(NO_ROWS):
            self.invalid_row(row, desk.say, row)
            self.assertEqual(desk.tally(), (tally[0] + many + 1,) * 2)
        self.assertEqual(self.told(desk), told)
        self.nothing_to_undo(Desk(BOOK).say, 'undo')

    def test_no_strings(self):
        desk = self.desk(BOOK, 'begin 0 0')
        many = 1
        for thing in NO_BOOKS + (7, ['log'], ('log',), ('begin', 2, 1), BOOK, Book(*BOOK), desk, b'log'):
            if not isinstance(thing, str):
                self.not_usable('row', desk.say, thing)
                many += 1
        self.assertEqual(desk.tally(), (many, many))
        self.assertEqual(desk.say('log'), 'begin 0 0')

    def test_tally(self):
        desk = Desk(BOOK)
        rows = (('begin 0 0', None), ('begin 0 0', 'event'), ('undo', None), ('undo', 'undo'), ('log', None),
                ('of 0', 'text'), ('x', 'row'), (None, 'string'), (TEXT, None), ('bars begin 0 9', None))
        for many, (row, error) in enumerate(rows):
            self.assertEqual(desk.tally(), (many, many))
            if error is None:
                desk.say(row)
            else:
                self.assertRaises(ValueError, desk.say, row)
        self.assertEqual(desk.tally(), (len(rows),) * 2)

    def test_large_numbers(self):
        nines = '9' * 60
        desk = self.desk((BOOK[0][:4] + (10 ** 70, 10 ** 60 - 1), BOOK[1], BOOK[2]), 'begin ' + nines + ' ' + nines)
        self.said(desk, ('next', '0 1' + '9' * 59 + '8 - / 1' + '0' * 60 + ' 1' + '0' * 59 + '1 1' + '0' * 59 + '2'))

    def test_as_the_model(self):
        draws = Draws(5)
        one = book(copies=2, late=5, wait=3, room=1, memory=2, drop='slowest', numbers=2)
        for _ in range(60):
            desk, model = Desk(one), Model(one)
            for _ in range(60):
                event = draws.one((('begin', 2 * len(model.begins), len(model.begins) % 2), ('hear', draws.below(20),
                                  draws.below(4), draws.below(2)), ('hear', len(model.events), draws.below(4), 1)))
                row = ' '.join(map(str, event))
                reason = model.reason(event)
                self.assertEqual(desk.say('bars ' + row), reason or '-')
                if reason is None:
                    model = Model(one, model.events + [event])
                    answer = model.answers[-1]
                    if event[0] == 'begin':
                        self.assertEqual(desk.say(row), str(answer))
                    else:
                        word, dropped, shows = answer
                        drops = '' if dropped is None else f' drops {dropped}'
                        self.assertEqual(desk.say(row), word + drops + (' shows' if shows else ''))
                    told = ' / '.join(' '.join(map(str, event)) for event in model.events)
                    self.assertEqual(desk.say('log'), told)
                    shown = ' / '.join(f'{t} {m} ' + ','.join(map(str, texts)) for t, m, texts in model.showings)
                    self.assertEqual(desk.say('shown'), shown or '-')
                    self.assertEqual(desk.say('harms'), ' '.join(model.harms()) or '-')
                    self.assertEqual(desk.say('missed'), ' '.join(map(str, model.missed())) or '-')
                    pairs = ' '.join(f'{m}@{t}' for m, t in model.remembered_pairs())
                    self.assertEqual(desk.say('remembered'), pairs or '-')


if __name__ == '__main__':
    unittest.main()
