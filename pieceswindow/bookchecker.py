"""The checker of books."""

from pieceswindow.errors import InvalidPaper
from pieceswindow.kinds import PARTS, fault_in, has_size


def lets_book(thing):
    """True for a book; InvalidPaper tells what is wrong with any other value."""
    if not has_shape(thing):
        raise InvalidPaper("shape", -1)
    for part, row in zip(PARTS, thing):
        fault = fault_in(part, row)
        if fault is not None:
            raise InvalidPaper(part, fault)
    return True


def has_shape(thing):
    """Whether any value is a tuple of three tuples as long as the parts of a book."""
    if not isinstance(thing, tuple) or len(thing) != 3:
        return False
    return all([has_size(part, row) for part, row in zip(PARTS, thing)])
