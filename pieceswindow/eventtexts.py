"""How events and logs are written."""

from pieceswindow.booktexts import book_text
from pieceswindow.errors import NotUsable
from pieceswindow.eventlines import line_of_event
from pieceswindow.liveevents import is_event
from pieceswindow.replaying import is_log


def event_line(event):
    """The line of an event by form."""
    if not is_event(event):
        raise NotUsable("event", -1)
    return line_of_event(event)


def log_lines(log):
    """The list of the lines of a log: three of its book, and one of each event."""
    if not is_log(log):
        raise NotUsable("log", -1)
    return book_text(log[0][1]).split("\n") + [line_of_event(event) for event in log[1:]]
