"""Logs of live hearers, and how they are replayed."""

from pieceswindow.errors import NotUsable
from pieceswindow.kinds import is_book
from pieceswindow.live import LiveHearer
from pieceswindow.liveevents import is_event


def is_log(thing):
    """Whether any value is a log by form."""
    if not isinstance(thing, tuple) or len(thing) == 0 or not is_log_head(thing[0]):
        return False
    return all([is_event(event) for event in thing[1:]])


def is_log_head(thing):
    """Whether any value is what a log begins with: the word live and a book."""
    if not isinstance(thing, tuple) or len(thing) != 2:
        return False
    word, book = thing
    return isinstance(word, str) and word == "live" and is_book(book)


def replayed(log):
    """A new live hearer behind the events of a log."""
    if not is_log(log):
        raise NotUsable("log", -1)
    live = LiveHearer(log[0][1])
    for event in log[1:]:
        live.take(event)
    return live
