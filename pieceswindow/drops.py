"""Rules of dropping compared: how much room each of them needs."""

from pieceswindow.bookchanges import with_drop
from pieceswindow.bookparts import numbers_of, parts_of
from pieceswindow.forms import crowd_of
from pieceswindow.kinds import DROPS


def room_by(book, drop):
    """The least room with which no text can be crowded by this rule of dropping."""
    by_rule = with_drop(book, drop)
    if parts_of(book) == 1:
        return 1
    return min(crowd_of(by_rule) + 1, numbers_of(book))


def drops_order(book):
    """The pairs (room, rule) of the least rooms of the three rules, ascending."""
    return tuple(sorted([(room_by(book, drop), drop) for drop in DROPS]))
