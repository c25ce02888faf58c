"""How far behind one another texts begin, and with which numbers."""

from pieceswindow.bookparts import next_number, paces_of, pause_of


def keeps_pace(book, gap):
    """Whether a text so far behind the one before goes on with the next number."""
    a, b = paces_of(book)
    return a <= gap and gap <= b


def is_stop(book, gap):
    """Whether a text so far behind the one before can begin anew, with number 0."""
    pause = pause_of(book)
    return pause is not None and gap >= pause


def has_number(book, last, gap, number):
    """Whether a text so far behind the one before, of number last, can have this number."""
    if is_stop(book, gap) and number == 0:
        return True
    return keeps_pace(book, gap) and number == next_number(book, last)


def next_stretches(book, last):
    """The set of (number, least, greatest): when, and with which numbers, a text can begin behind the last."""
    moment, number = last
    a, b = paces_of(book)
    pause = pause_of(book)
    following = next_number(book, number)
    if pause is None:
        return ((following, moment + a, moment + b),)
    if following == 0 and pause <= b + 1:
        # The stretch behind a stop overlaps that of the pace, or follows on it: a is at most pause.
        return ((0, moment + a, None),)
    return tuple(sorted([(following, moment + a, moment + b), (0, moment + pause, None)]))
