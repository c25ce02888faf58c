import unittest

from pieceswindow.booktexts import book_text
from pieceswindow.eventlines import line_of_event
from pieceswindow.eventreadings import read_event, read_log
from pieceswindow.liveevents import is_event
from pieceswindow.replaying import is_log
from tests.samples import BOOK, NO_BOOKS, ErrorChecks

LINES = ['begin 0 2', 'hear 3 0 1', 'hearer 4 1 2 eldest']
EVENTS = [('begin', 0, 2), ('hear', 3, 0, 1), ('hearer', 4, 1, 2, 'eldest')]
BOOK_LINES = ['sender 2 3 2 1 4 -', 'road 1 3', 'hearer 4 1 2 eldest']
# Words that stand in no place but the first.
NO_WORDS = ('', '00', '01', '+1', '--1', '-', '-0', '-00', '-01', '-+1', '1-', '1.0', '1e1', '1_0', '0x1',
            'x', 'None', 'True', ',', '1' * 61, '-' + '1' * 61, '0' * 60, '-' + '0' * 60, '1\n', '\n1', '1\n0', 'begin',
            'hear', 'hearer', 'live', '\t1', '\u0661', '\xb9')
# The places of numbers, and those of moments: the line and the word in it.
MOMENTS = ((0, 1), (1, 1))
NUMBERS = ((0, 2), (1, 2), (1, 3), (2, 1), (2, 2), (2, 3))


def line_with(line, field, word):
    """The line with this word in place of another."""
    words = LINES[line].split(' ')
    words[field] = word
    return ' '.join(words)


class TestEvents(ErrorChecks, unittest.TestCase):

    def test_examples(self):
        self.assertEqual(read_event('hear -3 0 1'), ('hear', -3, 0, 1))
        self.invalid_text(0, 3, read_event, 'hearer 4 1 0 eldest')

    def test_events(self):
        for line, event in zip(LINES, EVENTS):
            self.assertEqual(read_event(text=line), event)
            self.assertIs(type(read_event(line)), tuple)
            self.assertEqual(line_of_event(event), line)
        for line in ('begin -7 0', 'begin 10 999', 'hear -10000 39 59', 'hearer 0 0 1 newest', 'hearer 9 9 9 slowest'):
            self.assertIs(is_event(read_event(line)), True)
            self.assertEqual(line_of_event(read_event(line)), line)

    def test_nothing_but_the_form_is_checked(self):
        self.assertEqual(read_event('hear 5 ' + '9' * 60 + ' 100'), ('hear', 5, 10 ** 60 - 1, 100))
        self.assertEqual(read_event('begin 5 ' + '9' * 60), ('begin', 5, 10 ** 60 - 1))

    def test_words_that_cannot_stand(self):
        for line, field in MOMENTS + NUMBERS + ((2, 4),):
            for word in NO_WORDS:
                self.invalid_text(0, field, read_event, line_with(line, field, word))

    def test_moments_below_zero(self):
        for line, field in MOMENTS:
            for word in ('-1', '-10', '-' + '9' * 60, '-1' + '0' * 59):
                self.assertEqual(read_event(line_with(line, field, word))[field], int(word))
        for line, field in NUMBERS + ((2, 4),):
            for word in ('-1', '-10', '-' + '9' * 60):
                self.invalid_text(0, field, read_event, line_with(line, field, word))

    def test_sixty_digits(self):
        for line, field in MOMENTS + NUMBERS:
            for word in ('9' * 60, '1' + '0' * 59):
                self.assertEqual(read_event(line_with(line, field, word))[field], int(word))
            for word in ('9' * 61, '1' + '0' * 60):
                self.invalid_text(0, field, read_event, line_with(line, field, word))

    def test_least_values(self):
        for line, field in MOMENTS + NUMBERS[:-1]:
            self.assertEqual(read_event(line_with(line, field, '0'))[field], 0)
        self.assertEqual(read_event(line_with(2, 3, '1'))[3], 1)
        self.invalid_text(0, 3, read_event, line_with(2, 3, '0'))

    def test_rules_of_dropping(self):
        for word in ('eldest', 'newest', 'slowest'):
            self.assertEqual(read_event(line_with(2, 4, word))[4], word)
        for word in ('Eldest', 'eldes', 'eldestt', 'late', '0', '4', '-4', ''):
            self.invalid_text(0, 4, read_event, line_with(2, 4, word))

    def test_first_words(self):
        for line in range(3):
            for word in ('', 'Begin', 'begins', 'live', 'sender', 'undo', '0', '-', 'hea', 'begin\n', '\nhear', ' '):
                self.invalid_text(0, 0, read_event, line_with(line, 0, word))

    def test_a_word_is_missing(self):
        for line in LINES:
            words = line.split(' ')
            for many in range(1, len(words)):
                self.invalid_text(0, many, read_event, ' '.join(words[:many]))

    def test_one_word_too_many(self):
        for line in LINES:
            for more in (' ', ' 0', ' -', ' eldest', '  ', ' 0 0', ' \n'):
                self.invalid_text(0, len(line.split(' ')), read_event, line + more)

    def test_blanks(self):
        for line in LINES:
            words = line.split(' ')
            for field in range(len(words)):
                self.invalid_text(0, field, read_event, ' '.join(words[:field] + [''] + words[field:]))
        self.invalid_text(0, 0, read_event, '')
        self.invalid_text(0, 0, read_event, ' ')
        self.invalid_text(0, 0, read_event, 'begin\t0\t0')

    def test_newlines(self):
        self.invalid_text(0, 2, read_event, 'begin 0 0\n')
        self.invalid_text(0, 0, read_event, '\nbegin 0 0')
        self.invalid_text(0, 1, read_event, 'begin 0\n0 0')
        self.invalid_text(0, 0, read_event, '\n')

    def test_the_first_word_of_two(self):
        self.invalid_text(0, 1, read_event, 'begin x y z')
        self.invalid_text(0, 1, read_event, 'hear -0 -1')
        self.invalid_text(0, 3, read_event, 'hearer 0 0 0 late 9')
        self.invalid_text(0, 2, read_event, 'hear 0')

    def test_no_strings(self):
        for thing in NO_BOOKS + (7, LINES, EVENTS[0], BOOK):
            if not isinstance(thing, str):
                self.not_usable('text', read_event, thing)


class TestLogs(ErrorChecks, unittest.TestCase):

    def test_logs(self):
        log = (('live', BOOK),) + tuple(EVENTS)
        self.assertEqual(read_log(BOOK_LINES + LINES), log)
        self.assertEqual(read_log(lines=BOOK_LINES), (('live', BOOK),))
        self.assertIs(type(read_log(BOOK_LINES)), tuple)
        self.assertIs(is_log(read_log(BOOK_LINES + LINES)), True)
        other = ((3, 9, 1, 2, 60, 5), (0, 7), (9, 8, 7, 'slowest'))
        self.assertEqual(read_log(book_text(other).split('\n') + LINES[:1]), (('live', other), EVENTS[0]))

    def test_nothing_but_the_form_is_checked(self):
        log = read_log(BOOK_LINES + ['hear 0 9 9'] * 50)
        self.assertEqual((len(log), log[50]), (51, ('hear', 0, 9, 9)))

    def test_a_changed_list_changes_nothing(self):
        lines = BOOK_LINES + LINES
        log = read_log(lines)
        lines[3] = 'x'
        self.assertEqual(log, (('live', BOOK),) + tuple(EVENTS))
        self.assertEqual(lines, BOOK_LINES + ['x'] + LINES[1:])

    def test_lines_of_the_book(self):
        faults = ((0, 0, 'senders 2 3 2 1 4 -'), (0, 2, 'sender 2 1 2 1 4 -'), (0, 6, 'sender 2 3 2 1 4'),
                  (0, 6, 'sender 2 3 2 1 4 1'), (0, 7, 'sender 2 3 2 1 4 - '), (0, 0, ''), (1, 0, ''), (1, 2, 'road 1'),
                  (1, 1, 'road -1 3'), (1, 3, 'road 1 3 5'), (1, 0, 'begin 0 0'), (2, 0, 'begin 0 0'), (2, 0, ''),
                  (2, 3, 'hearer 4 1 0 eldest'), (2, 4, 'hearer 4 1 2 late'), (2, 5, 'hearer 4 1 2 eldest 0'))
        for line, field, text in faults:
            for more in ([], LINES, ['x'], ['']):
                self.invalid_text(line, field, read_log, BOOK_LINES[:line] + [text] + BOOK_LINES[line + 1:] + more)

    def test_lines_of_the_book_that_are_missing(self):
        self.invalid_text(0, 0, read_log, [])
        self.invalid_text(0, 0, read_log, [''])
        self.invalid_text(1, 0, read_log, BOOK_LINES[:1])
        self.invalid_text(2, 0, read_log, BOOK_LINES[:2])
        self.invalid_text(2, 0, read_log, BOOK_LINES[:2] + [''])
        self.invalid_text(1, 0, read_log, BOOK_LINES[:1] + LINES)
        self.invalid_text(0, 2, read_log, ['sender 2 1'])
        self.invalid_text(0, 0, read_log, LINES)
        self.invalid_text(1, 1, read_log, [BOOK_LINES[0], 'road x'])

    def test_lines_of_events(self):
        for at in range(3):
            for field, text in ((0, ''), (0, 'x'), (1, 'begin'), (1, 'begin -0 0'), (2, 'begin 0 -1'), (3, 'hear 0 0'),
                                (3, 'begin 0 0 0'), (0, 'sender 2 3 2 1 4 -'), (3, 'hearer 1 1 0 eldest'), (0, ' ')):
                lines = BOOK_LINES + LINES[:at] + [text] + LINES[at:]
                self.invalid_text(3 + at, field, read_log, lines)
                self.invalid_text(3 + at, field, read_log, lines + ['y'])
        self.invalid_text(6, 0, read_log, BOOK_LINES + LINES + [''])

    def test_the_first_line_of_two(self):
        self.invalid_text(2, 0, read_log, BOOK_LINES[:2] + ['x', 'y'])
        self.invalid_text(3, 0, read_log, BOOK_LINES + ['x', 'y'])
        self.invalid_text(4, 1, read_log, BOOK_LINES + LINES[:1] + ['hear', ''])

    def test_no_lists_of_strings(self):
        lists = ([0], [True], [[]], [BOOK], [b'begin 0 0'], *[BOOK_LINES + [thing] for thing in (None, LINES, ())])
        for thing in NO_BOOKS + lists + (tuple(BOOK_LINES), '\n'.join(BOOK_LINES), 7, BOOK):
            if thing != []:
                self.not_usable('lines', read_log, thing)

    def test_newlines_in_strings(self):
        for lines in (['\n'], ['x\n'], BOOK_LINES + ['begin 0 0\n'], BOOK_LINES + ['begin 0 0\nbegin 2 1'],
                      [BOOK_LINES[0] + '\n' + BOOK_LINES[1], BOOK_LINES[2]], ['x', 'y\n'], ['\n'.join(BOOK_LINES)]):
            self.not_usable('lines', read_log, lines)

    def test_sixty_digits(self):
        nines = '9' * 60
        self.assertEqual(read_log(BOOK_LINES + ['begin -' + nines + ' 0'])[1], ('begin', 1 - 10 ** 60, 0))
        self.invalid_text(3, 1, read_log, BOOK_LINES + ['begin -9' + nines + ' 0'])
        self.invalid_text(1, 1, read_log, [BOOK_LINES[0], 'road 9' + nines + ' 0', BOOK_LINES[2]])


if __name__ == '__main__':
    unittest.main()
