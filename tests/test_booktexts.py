import unittest

from pieceswindow.bookchanges import with_mark, with_pause
from pieceswindow.bookreadings import book_read
from pieceswindow.booktexts import book_text
from tests.samples import BOOK, HEARER, NO_BOOKS, ROAD, SENDER, ErrorChecks, book_with

TEXT = 'sender 2 3 2 1 4 -\nroad 1 3\nhearer 4 1 2 eldest'
LINES = TEXT.split('\n')
# Words that are no numbers as they are written.
NO_WORDS = ('00', '01', '02', '+2', '-2', '-0', '2.', '2.0', '2e1', '0x2', '2_0', 'x', 'None', 'True', '--', '2-', ',',
            'eldest', '"2"', '1' * 61, '0' * 60, '0' * 61, '3' + '0' * 60, '\t2', '2\t', '2\r', '\u0662', '\xb2', '')


def text_with(line, field, word):
    """The text with this word in place field of a line."""
    rows = [row.split(' ') for row in LINES]
    rows[line][field] = word
    return '\n'.join(' '.join(row) for row in rows)


class TestTexts(ErrorChecks, unittest.TestCase):

    def test_examples(self):
        self.assertEqual([book_text(BOOK), book_read(book_text(BOOK)) == BOOK], [TEXT, True])
        self.invalid_text(0, 6, book_read, 'sender 2 3 2 1 4 1\nroad 1')

    def test_written_and_read_again(self):
        books = [BOOK, with_pause(BOOK, 2), with_pause(BOOK, 10 ** 60 - 1)]
        books += [book_with(2, 3, drop) for drop in ('eldest', 'newest', 'slowest')]
        books += [((1, 1, 1, 1, 1, 1), (0, 0), (0, 0, 1, 'newest'))]
        books += [((11, 12, 13, 14, 15, 16), (17, 18), (19, 20, 21, 'slowest'))]
        books += [((10 ** 60 - 1,) * 6, (10 ** 60 - 1,) * 2, (10 ** 60 - 1,) * 3 + ('eldest',))]
        for one in books:
            self.assertEqual(book_read(book_text(one)), one)
            self.assertEqual(book_text(book_read(book_text(one))), book_text(one))

    def test_each_place_is_written(self):
        text = 'sender 11 12 13 14 15 16\nroad 17 18\nhearer 19 20 21 slowest'
        self.assertEqual(book_text(book=((11, 12, 13, 14, 15, 16), (17, 18), (19, 20, 21, 'slowest'))), text)
        self.assertEqual(book_read(text=text), ((11, 12, 13, 14, 15, 16), (17, 18), (19, 20, 21, 'slowest')))

    def test_what_is_read_is_a_book_of_tuples(self):
        one = book_read(TEXT)
        self.assertEqual([type(one)] + [type(part) for part in one], [tuple] * 4)
        self.assertEqual([type(value) for value in one[0]], [int] * 5 + [type(None)])

    def test_large_numbers_are_written(self):
        marked = with_mark(with_mark(BOOK, 10 ** 59), 10 ** 59)
        self.assertEqual(book_text(marked).split(' ')[5], '4' + '0' * 118)
        self.invalid_text(0, 5, book_read, book_text(marked))
        for number in (10 ** 59, 10 ** 60 - 1, 10 ** 60, 10 ** 60 + 7, 10 ** 119 + 5 * 10 ** 60, 10 ** 120 - 1):
            self.assertEqual(book_text(book_with(1, 0, number)), text_with(1, 1, str(number)))
        self.assertEqual(book_text(book_with(1, 0, 10 ** 6000)), text_with(1, 1, '1' + '0' * 6000))

    def test_sixty_digits(self):
        self.assertEqual(book_read(text_with(1, 1, '9' * 60)), book_with(1, 0, 10 ** 60 - 1))
        self.invalid_text(1, 1, book_read, text_with(1, 1, '9' * 61))
        self.invalid_text(1, 1, book_read, text_with(1, 1, '1' + '0' * 60))

    def test_no_strings(self):
        for thing in NO_BOOKS + (BOOK, LINES, tuple(LINES), 7):
            if not isinstance(thing, str):
                self.not_usable('text', book_read, thing)

    def test_words_that_cannot_stand(self):
        for line, row in enumerate(LINES):
            for field in range(len(row.split(' '))):
                for word in NO_WORDS + (LINES[line - 1].split(' ')[0],):
                    if (line, field, word) != (2, 4, 'eldest'):
                        self.invalid_text(line, field, book_read, text_with(line, field, word))

    def test_none_is_a_pause_alone(self):
        for line, row in enumerate(LINES):
            for field in range(len(row.split(' '))):
                if (line, field) == (0, 6):
                    self.assertEqual(book_read(text_with(0, 6, '-')), BOOK)
                else:
                    self.invalid_text(line, field, book_read, text_with(line, field, '-'))

    def test_values_by_those_before_them(self):
        leasts = ((0, 1, 1), (0, 2, 2), (0, 3, 1), (0, 4, 1), (0, 5, 1), (0, 6, 2), (1, 1, 0), (1, 2, 0), (2, 1, 0),
                  (2, 2, 0), (2, 3, 1))
        for line, field, least in leasts:
            one = book_read(text_with(line, field, str(least)))
            self.assertEqual(one, book_with(line, field - 1, least))
            if least:
                self.invalid_text(line, field, book_read, text_with(line, field, str(least - 1)))
        self.invalid_text(0, 2, book_read, text_with(0, 1, '4'))

    def test_rules_of_dropping(self):
        for word in ('Eldest', 'eldes', 'eldestt', 'youngest', 'late', '0', '1', '', 'hearer'):
            self.invalid_text(2, 4, book_read, text_with(2, 4, word))

    def test_first_words(self):
        for line in range(3):
            for word in ('', 'Sender', 'senders', 'roads', 'book', '2', 'ROAD', 'hearers'):
                self.invalid_text(line, 0, book_read, text_with(line, 0, word))

    def test_a_word_is_missing(self):
        for line, row in enumerate(LINES):
            words = row.split(' ')
            for many in range(1, len(words)):
                rows = list(LINES)
                rows[line] = ' '.join(words[:many])
                self.invalid_text(line, many, book_read, '\n'.join(rows))

    def test_one_word_too_many(self):
        for line, row in enumerate(LINES):
            for more in (' 1', ' ', ' -', ' eldest', '  ', ' 1 2'):
                rows = list(LINES)
                rows[line] = row + more
                self.invalid_text(line, len(row.split(' ')), book_read, '\n'.join(rows))

    def test_blanks(self):
        for line, row in enumerate(LINES):
            words = row.split(' ')
            for field in range(len(words)):
                rows = list(LINES)
                rows[line] = ' '.join(words[:field] + [''] + words[field:])
                self.invalid_text(line, field, book_read, '\n'.join(rows))

    def test_empty_lines(self):
        self.invalid_text(0, 0, book_read, '')
        self.invalid_text(0, 0, book_read, '\n')
        self.invalid_text(0, 0, book_read, '\n' + TEXT)
        self.invalid_text(1, 0, book_read, LINES[0] + '\n')
        self.invalid_text(1, 0, book_read, LINES[0] + '\n\n' + LINES[1] + '\n' + LINES[2])
        self.invalid_text(2, 0, book_read, LINES[0] + '\n' + LINES[1] + '\n')

    def test_a_line_is_missing(self):
        self.invalid_text(1, 0, book_read, LINES[0])
        self.invalid_text(2, 0, book_read, '\n'.join(LINES[:2]))
        self.invalid_text(1, 0, book_read, '\n'.join(LINES[::2]))

    def test_a_fourth_line(self):
        for more in ('\n', '\n ', '\nhearer 4 1 2 eldest', '\nbegin 0 0', '\n\n', '\n\n\n', '\nx y z'):
            self.invalid_text(3, 0, book_read, TEXT + more)

    def test_faults_of_the_lines_ahead_come_first(self):
        self.invalid_text(2, 3, book_read, text_with(2, 3, '0') + '\n')
        self.invalid_text(0, 6, book_read, 'sender 2 3 2 1 4')
        self.invalid_text(0, 1, book_read, text_with(0, 1, '0').replace('road', 'way'))
        self.invalid_text(1, 2, book_read, 'sender 2 3 2 1 4 -\nroad 1')
        self.invalid_text(0, 2, book_read, 'sender 2 x 2 1')

    def test_the_first_word_of_two(self):
        self.invalid_text(0, 2, book_read, 'sender 2 1 0 0 0 0 0\nroad 1 3\nhearer 4 1 2 eldest')
        self.invalid_text(2, 3, book_read, 'sender 2 3 2 1 4 -\nroad 1 3\nhearer 4 1 0 fullest x')

    def test_other_separators(self):
        self.invalid_text(0, 0, book_read, TEXT.replace(' ', '\t'))
        self.invalid_text(0, 0, book_read, TEXT.upper())
        self.invalid_text(0, 0, book_read, ' ' + TEXT)


if __name__ == '__main__':
    unittest.main()
