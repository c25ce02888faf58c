"""The parts of a book, and what follows from them at once."""

from pieceswindow.errors import NotUsable
from pieceswindow.kinds import is_number


def paces_of(book):
    """The least and the greatest distance of one beginning from the one before."""
    return (book[0][0], book[0][1])


def parts_of(book):
    """How many parts each text has."""
    return book[0][2]


def copies_of(book):
    """How often each part can arrive at the most."""
    return book[0][3]


def numbers_of(book):
    """How many numbers there are."""
    return book[0][4]


def pause_of(book):
    """After how long a stop numbers can begin anew, or None."""
    return book[0][5]


def span_of(book):
    """How far behind the beginning of its text a part arrives, at the least and at the most."""
    d, late = book[1]
    return (d, d + late)


def wait_of(book):
    """How long an open text is kept."""
    return book[2][0]


def memory_of(book):
    """How long the number of a text that was shown is remembered."""
    return book[2][1]


def room_of(book):
    """How many texts can be open."""
    return book[2][2]


def drop_of(book):
    """The rule of dropping."""
    return book[2][3]


def next_number(book, m):
    """The number of the text after one with number m, if it does not begin anew."""
    numbers = numbers_of(book)
    if not is_number(m) or m >= numbers:
        raise NotUsable("m", -1)
    return (m + 1) % numbers


def reach_of(book):
    """How far apart two texts with one number begin at the least."""
    a = paces_of(book)[0]
    pause = pause_of(book)
    if pause is None:
        return numbers_of(book) * a
    return min(numbers_of(book) * a, pause)
