"""The checker of runs."""

from pieceswindow.beginnings import has_number, is_stop, keeps_pace
from pieceswindow.bookparts import copies_of, numbers_of, parts_of, span_of
from pieceswindow.errors import InvalidPaper
from pieceswindow.kinds import is_integer, is_number


def lets_run(book, thing):
    """How many texts and arrivals a run of the book has; InvalidPaper tells what is wrong with any other value."""
    if not is_pair_of_tuples(thing):
        raise InvalidPaper("shape", -1)
    begins, arrivals = thing
    for k in range(len(begins)):
        fault = fault_of_begin(book, begins, k)
        if fault is not None:
            raise InvalidPaper(fault, k)
    check_arrivals(book, begins, arrivals)
    return (len(begins), len(arrivals))


def is_pair_of_tuples(thing):
    """Whether any value is a pair of tuples."""
    if not isinstance(thing, tuple) or len(thing) != 2:
        return False
    return all([isinstance(row, tuple) for row in thing])


def fault_of_begin(book, begins, k):
    """The word for what is wrong with begin k, those ahead of it being right, or None."""
    if not is_begin(book, begins[k]):
        return "begin"
    if k == 0:
        return None
    last, last_number = begins[k - 1]
    moment, number = begins[k]
    gap = moment - last
    if not keeps_pace(book, gap) and not is_stop(book, gap):
        return "pace"
    return None if has_number(book, last_number, gap, number) else "number"


def is_begin(book, thing):
    """Whether any value is a pair of a moment and a number of the book."""
    if not isinstance(thing, tuple) or len(thing) != 2:
        return False
    moment, number = thing
    return is_integer(moment) and is_number(number) and number < numbers_of(book)


def check_arrivals(book, begins, arrivals):
    """InvalidPaper for the first arrival that is wrong behind these begins."""
    copies = {}
    last = None
    for k in range(len(arrivals)):
        fault = fault_of_arrival(book, begins, arrivals[k], last)
        if fault is not None:
            raise InvalidPaper(fault, k)
        last, text, part = arrivals[k]
        copies[(text, part)] = copies.get((text, part), 0) + 1
        if copies[(text, part)] > copies_of(book):
            raise InvalidPaper("copy", k)


def fault_of_arrival(book, begins, arrival, last):
    """The word for what is wrong with an arrival behind one at the moment last, but for its copies, or None."""
    if not is_arrival(book, begins, arrival):
        return "arrival"
    moment, text, _ = arrival
    behind = moment - begins[text][0]
    first, most = span_of(book)
    if behind < first or behind > most:
        return "span"
    return "order" if last is not None and moment < last else None


def is_arrival(book, begins, thing):
    """Whether any value is a triple of a moment, the index of one of the begins, and a part."""
    if not isinstance(thing, tuple) or len(thing) != 3:
        return False
    moment, text, part = thing
    if not is_integer(moment) or not is_number(text) or not is_number(part):
        return False
    return text < len(begins) and part < parts_of(book)
