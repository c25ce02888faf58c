"""Books and other values that several tests use, and checks of errors."""

from pieceswindow.errors import InvalidEvent, InvalidPaper, InvalidRow, InvalidText, NothingToUndo, NotUsable

SENDER, ROAD, HEARER = (2, 3, 2, 1, 4, None), (1, 3), (4, 1, 2, 'eldest')
BOOK = (SENDER, ROAD, HEARER)
LONGER, SAFE = (SENDER, ROAD, (5, 1, 3, 'eldest')), (SENDER, ROAD, (4, 1, 3, 'eldest'))

# Values of every kind, none of which is a number; the lists cannot stand in sets.
NO_NUMBERS = (True, False, None, -1, -10 ** 59, '', '1', 'eldest', 'a\nb', (), (1,), [], [1], [[], ()])

# Values that are not even integers.
NO_INTEGERS = tuple(thing for thing in NO_NUMBERS if not isinstance(thing, int) or isinstance(thing, bool))


def nested(depth):
    """Tuples and lists in turn, so deep."""
    thing = 0
    for k in range(depth):
        thing = (thing,) if k % 2 else [thing]
    return thing


# Values that are no book, nor a part of one.
NO_BOOKS = NO_NUMBERS + (0, 1, nested(30), tuple(range(5000)), 'x' * 4000, [[]] * 5000)


def replaced(row, k, value):
    """The tuple with this value in place k."""
    return row[:k] + (value,) + row[k + 1:]


def book_with(part, k, value, book=BOOK):
    """The book with this value in place k of a part, whatever it is."""
    return replaced(book, part, replaced(book[part], k, value))


class ErrorChecks:
    """Checks that a call raises just one error with just these fields."""

    def raises(self, error, fields, call, /, *rest, **more):
        with self.assertRaises(error) as held:
            call(*rest, **more)
        self.assertIs(type(held.exception), error)
        found = {name: getattr(held.exception, name) for name in fields}
        self.assertEqual(found, fields)
        for name in fields:
            self.assertIs(type(found[name]), type(fields[name]))
        return held.exception

    def not_usable(self, word, call, /, *rest, **more):
        return self.raises(NotUsable, {'word': word, 'at': -1}, call, *rest, **more)

    def invalid_paper(self, word, at, call, /, *rest, **more):
        return self.raises(InvalidPaper, {'word': word, 'at': at}, call, *rest, **more)

    def invalid_text(self, line, field, call, /, *rest, **more):
        return self.raises(InvalidText, {'line': line, 'field': field}, call, *rest, **more)

    def invalid_event(self, event, reason, call, /, *rest, **more):
        return self.raises(InvalidEvent, {'event': event, 'reason': reason}, call, *rest, **more)

    def nothing_to_undo(self, call, /, *rest, **more):
        return self.raises(NothingToUndo, {'steps': 0}, call, *rest, **more)

    def invalid_row(self, row, call, /, *rest, **more):
        return self.raises(InvalidRow, {'row': row}, call, *rest, **more)
