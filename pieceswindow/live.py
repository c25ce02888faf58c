"""Live hearers, which follow a hearer event by event."""

from pieceswindow.beginnings import next_stretches
from pieceswindow.bookchecker import lets_book
from pieceswindow.bookparts import parts_of
from pieceswindow.errors import InvalidEvent, NothingToUndo, NotUsable
from pieceswindow.eventlines import integer_text, line_of_event, slashed, with_commas
from pieceswindow.hearers import open_rows
from pieceswindow.kinds import is_number
from pieceswindow.liveevents import is_event
from pieceswindow.showings import harms_among, missed_among
from pieceswindow.stands import copies_heard, first_stand, next_span, reason_against, stand_behind


class LiveHearer:
    """A hearer of a book, arrival by arrival."""

    MOST = 40

    def __init__(self, book):
        lets_book(book)
        self._book = book
        self._now = first_stand(book)
        self._started = 0
        self._finished = 0

    @property
    def book_now(self):
        """The book with the hearer as it is now."""
        return self._now.book

    @property
    def run_now(self):
        """The run so far."""
        return (self._now.begins, self._now.arrivals)

    @property
    def open_now(self):
        """The open texts (number, opened, heard, texts), in the order of their opening."""
        return open_rows(self._now.held)

    @property
    def remembered_now(self):
        """The set of the remembered numbers (number, moment)."""
        return tuple(sorted(self._now.held.remembered))

    @property
    def showings_now(self):
        """The showings (moment, number, texts), in order."""
        return self._now.showings

    @property
    def missed_now(self):
        """The set of the texts that arrived whole and were not shown."""
        return missed_among(parts_of(self._now.book), self._now.arrivals, self._now.showings)

    @property
    def harms_now(self):
        """The set of the harms so far."""
        return harms_among(self._now.showings, self.missed_now)

    def begin(self, moment, number):
        """A text begins; returns its index."""
        return self._counted(("begin", moment, number))

    def hear(self, moment, text, part):
        """This arrival is heard; returns the triple (word, dropped, shows)."""
        return self._counted(("hear", moment, text, part))

    def set_hearer(self, wait, memory, room, drop):
        """It is this hearer from now on; returns the numbers of the texts that are dropped for it."""
        return self._counted(("hearer", wait, memory, room, drop))

    def go(self, event):
        """Applies any event and returns its answer."""
        return self._counted(event)

    def __iadd__(self, other):
        self._counted(other)
        return self

    def _counted(self, event):
        """Applies an event, as an operation that is counted."""
        ended = self._finished + 1
        self._started = self._started + 1
        try:
            return self.take(event)
        finally:
            self._finished = ended

    def take(self, event):
        """Applies an event and counts nothing; returns its answer."""
        self._now, answer = self._behind(self._now, event)
        return answer

    def _behind(self, stand, event):
        """The stand behind an event, and the answer to it; InvalidEvent if it is not possible there."""
        reason = self._reason(stand, event)
        if reason is not None:
            raise InvalidEvent(event, reason)
        return stand_behind(stand, event)

    def _reason(self, stand, event):
        """The reason why any value is no event that is possible behind this stand, or None."""
        if not is_event(event):
            return "shape"
        if len(stand.events) >= self.MOST:
            return "full"
        return reason_against(stand, event)

    def barred(self, event):
        """The reason why an event is not possible, or None."""
        return self._reason(self._now, event)

    def tried(self, *events):
        """The answers to these events, in order; nothing changes."""
        stand = self._now
        answers = []
        for event in events:
            stand, answer = self._behind(stand, event)
            answers.append(answer)
        return tuple(answers)

    def undo(self):
        """Takes back the last event and returns it."""
        ended = self._finished + 1
        self._started = self._started + 1
        try:
            return self._taken_back()
        finally:
            self._finished = ended

    def _taken_back(self):
        """As undo, which counts it."""
        stand = self._now
        if stand.before is None:
            raise NothingToUndo(0)
        self._now = stand.before
        return stand.events[-1]

    def do_all(self, *events, keep=False):
        """Applies events in order and returns how many they are; if one is not possible, those ahead of it
        stay only if keep is True."""
        ended = self._finished + 1
        self._started = self._started + 1
        try:
            return self._done(events, keep)
        finally:
            self._finished = ended

    def _done(self, events, keep):
        """As do_all, which counts it."""
        if not isinstance(keep, bool):
            raise NotUsable("keep", -1)
        stand = self._now
        for event in events:
            stand, _ = self._behind(stand, event)
            if keep:
                self._now = stand
        self._now = stand
        return len(events)

    def tally(self):
        """How many operations were started, and how many were finished."""
        return (self._started, self._finished)

    def next_begins(self):
        """The set of (number, least, greatest): when, and with which numbers, a text can begin next."""
        if self._now.begins == ():
            return ()
        return next_stretches(self._now.book, self._now.begins[-1])

    def heard_between(self, text):
        """The least and the greatest moment at which an arrival of this text is possible next, or None."""
        if not self._has_begun(text):
            raise NotUsable("text", -1)
        return next_span(self._now, text)

    def _has_begun(self, text):
        """Whether any value is the index of a text that has begun."""
        return is_number(text) and text < len(self._now.begins)

    def table(self):
        """The list of the rows of the open texts."""
        return [table_row(row) for row in self.open_now]

    def log(self):
        """The word live with the book of the beginning, and behind this pair the events."""
        return (("live", self._book),) + self._now.events

    def __getitem__(self, at):
        if not self._has_begun(at):
            raise NotUsable("text", -1)
        return copies_heard(self._now, at)

    def __contains__(self, x):
        return is_number(x) and x in [row[0] for row in self.open_now]

    def __len__(self):
        return len(self._now.events)

    def __iter__(self):
        return iter(self._now.events)

    def __eq__(self, other):
        return isinstance(other, LiveHearer) and self.log() == other.log()

    def __str__(self):
        return str(slashed([line_of_event(event) for event in self._now.events]))


def table_row(row):
    """The row of an open text (number, opened, heard, texts), with its columns right-aligned."""
    number, opened, heard, texts = row
    columns = [integer_text(number).rjust(3), integer_text(opened).rjust(6), integer_text(heard).rjust(6)]
    return " ".join(columns + [with_commas(texts)])
