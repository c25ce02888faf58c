"""Told back from what was heard: when texts began."""

from pieceswindow.boundings import bounds_of, need_heard, shut_among
from pieceswindow.errors import Shut


def spans(sender, road, heard):
    """For each text the least and the greatest moment at which it can have begun; Shut if there is no such run."""
    need_heard(sender, road, heard)
    bounds = bounds_of(sender, road, heard)
    shut = shut_among(bounds)
    if shut is not None:
        raise Shut((heard[shut[0]], heard[shut[1]]))
    return tuple([(low, high) for low, high, _, _ in bounds])
