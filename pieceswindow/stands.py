"""Where a live hearer stands behind its events, and how it goes on by one more. A stand never changes."""

from pieceswindow.beginnings import has_number
from pieceswindow.bookparts import copies_of, drop_of, numbers_of, parts_of, room_of, span_of
from pieceswindow.hearers import fate_of, narrowed, nothing_held


class Stand:
    """What is so behind these events: the book with the hearer of now, the run so far, what is held and what was
    shown. before is the stand ahead of the last event."""

    def __init__(self, before, events, book, run, held, showings):
        self.before = before
        self.events = events
        self.book = book
        self.begins = run[0]
        self.arrivals = run[1]
        self.held = held
        self.showings = showings


def first_stand(book):
    """The stand ahead of all events."""
    return Stand(None, (), book, ((), ()), nothing_held(), ())


def stand_behind(stand, event):
    """The stand behind this event too, which is possible, and the answer to it."""
    if event[0] == "begin":
        return behind_begin(stand, event)
    if event[0] == "hear":
        return behind_hear(stand, event)
    return behind_hearer(stand, event)


def behind_begin(stand, event):
    """As stand_behind, for the beginning of a text."""
    run = (stand.begins + (event[1:],), stand.arrivals)
    after = Stand(stand, stand.events + (event,), stand.book, run, stand.held, stand.showings)
    return (after, len(stand.begins))


def behind_hear(stand, event):
    """As stand_behind, for an arrival."""
    arrival = event[1:]
    fate = fate_of(stand.held, stand.book, stand.begins[arrival[1]][1], arrival)
    shown = () if fate.showing is None else (fate.showing,)
    run = (stand.begins, stand.arrivals + (arrival,))
    after = Stand(stand, stand.events + (event,), stand.book, run, fate.held, stand.showings + shown)
    return (after, fate.told())


def behind_hearer(stand, event):
    """As stand_behind, for another hearer."""
    book = stand.book[:2] + (event[1:],)
    held, numbers = narrowed(stand.held, room_of(book), drop_of(book))
    run = (stand.begins, stand.arrivals)
    return (Stand(stand, stand.events + (event,), book, run, held, stand.showings), numbers)


def reason_against(stand, event):
    """The reason why an event by form is not possible behind this stand, or None; how many there are is left out."""
    if event[0] == "begin":
        return reason_against_begin(stand, event)
    if event[0] == "hear":
        return reason_against_hear(stand, event)
    return "same" if event[1:] == stand.book[2] else None


def reason_against_begin(stand, event):
    """As reason_against, for the beginning of a text."""
    moment, number = event[1:]
    book = stand.book
    if number >= numbers_of(book):
        return "number"
    if stand.begins == ():
        return None
    last, last_number = stand.begins[-1]
    return None if has_number(book, last_number, moment - last, number) else "pace"


def reason_against_hear(stand, event):
    """As reason_against, for an arrival."""
    moment, text, part = event[1:]
    if text >= len(stand.begins):
        return "text"
    if part >= parts_of(stand.book):
        return "part"
    first, last = span_in(stand, text)
    if moment < first or moment > last:
        return "span"
    if stand.arrivals != () and moment < stand.arrivals[-1][0]:
        return "order"
    return "copy" if copies_heard(stand, text)[part] >= copies_of(stand.book) else None


def span_in(stand, text):
    """The first and the last moment at which parts of this text arrive."""
    moment = stand.begins[text][0]
    first, last = span_of(stand.book)
    return (moment + first, moment + last)


def copies_heard(stand, text):
    """How many copies of each part of this text arrived."""
    parts = [part for _, at, part in stand.arrivals if at == text]
    return tuple([parts.count(part) for part in range(parts_of(stand.book))])


def next_span(stand, text):
    """The first and the last moment at which an arrival of this text is possible next, or None."""
    first, last = span_in(stand, text)
    if stand.arrivals != ():
        first = max(first, stand.arrivals[-1][0])
    if first > last or min(copies_heard(stand, text)) >= copies_of(stand.book):
        return None
    return (first, last)
