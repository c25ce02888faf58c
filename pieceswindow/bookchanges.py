"""Changes of books: each returns a new book."""

from pieceswindow.errors import NotUsable
from pieceswindow.kinds import PARTS, at_least, fits, is_number


def with_paces(book, a, b):
    """The book with these paces."""
    sender, road, hearer = book
    pause = sender[5]
    if not at_least(a, 1) or (pause is not None and a > pause):
        raise NotUsable("a", -1)
    if not at_least(b, a):
        raise NotUsable("b", -1)
    return ((a, b) + sender[2:], road, hearer)


def with_parts(book, n):
    """The book with n parts in each text."""
    return changed(book, 0, 2, n, "n")


def with_copies(book, copies):
    """The book with as many copies of each part at the most."""
    return changed(book, 0, 3, copies, "copies")


def with_numbers(book, numbers):
    """The book with as many numbers."""
    return changed(book, 0, 4, numbers, "numbers")


def with_pause(book, pause):
    """The book with this pause, or with none."""
    return changed(book, 0, 5, pause, "pause")


def with_road(book, d, late):
    """The book with this road."""
    if not is_number(d):
        raise NotUsable("d", -1)
    if not is_number(late):
        raise NotUsable("late", -1)
    return (book[0], (d, late), book[2])


def with_wait(book, wait):
    """The book with this wait."""
    return changed(book, 2, 0, wait, "wait")


def with_memory(book, memory):
    """The book with this memory."""
    return changed(book, 2, 1, memory, "memory")


def with_room(book, room):
    """The book with this room."""
    return changed(book, 2, 2, room, "room")


def with_drop(book, drop):
    """The book with this rule of dropping."""
    return changed(book, 2, 3, drop, "drop")


def with_mark(book, e):
    """The book whose parts have a mark of one of e values more."""
    if not at_least(e, 1):
        raise NotUsable("e", -1)
    return with_numbers(book, book[0][4] * e)


def with_ways(book, ways):
    """The book whose parts are sent over each of these ways."""
    road = road_over(ways) if are_ways(ways) else None
    if road is None:
        raise NotUsable("ways", -1)
    return (book[0], road, book[2])


def changed(book, at, k, value, word):
    """The book with this value in place k of its part at; NotUsable with the word if it does not fit."""
    part = book[at]
    if not fits(PARTS[at], k, value, part[0]):
        raise NotUsable(word, -1)
    return book[:at] + (part[:k] + (value,) + part[k + 1:],) + book[at + 1:]


def are_ways(thing):
    """Whether any value is a nonempty tuple of ways."""
    if not isinstance(thing, tuple) or thing == ():
        return False
    return all([is_way(way) for way in thing])


def is_way(thing):
    """Whether any value is a triple (e, d, most) of numbers with d at most most."""
    if not isinstance(thing, tuple) or len(thing) != 3:
        return False
    e, d, most = thing
    return is_number(e) and is_number(d) and at_least(most, d)


def road_over(ways):
    """The road from the first to the last moment of these ways; None if a moment is left out."""
    stretches = sorted([(d, e + most) for e, d, most in ways])
    first, last = stretches[0]
    for low, high in stretches:
        if low > last + 1:
            return None
        last = max(last, high)
    return (first, last - first)
