"""A desk, which answers rows of text by a live hearer."""

from pieceswindow.bookreadings import book_read, writes_number
from pieceswindow.errors import InvalidRow, InvalidText, NotUsable
from pieceswindow.eventlines import integer_text, line_of_event, slashed, spaced, with_commas, worth_text
from pieceswindow.eventreadings import read_event
from pieceswindow.live import LiveHearer


def log_told(live):
    """The events so far."""
    return str(live)


def open_told(live):
    """The table of the open texts."""
    return slashed(live.table())


def next_told(live):
    """When, and with which numbers, a text can begin next."""
    return slashed([spaced(stretch) for stretch in live.next_begins()])


def shown_told(live):
    """The showings."""
    return slashed([showing_told(showing) for showing in live.showings_now])


def showing_told(showing):
    """A showing as its moment, its number and its texts."""
    moment, number, texts = showing
    return spaced((moment, number, with_commas(texts)))


def harms_told(live):
    """The harms."""
    return spaced(live.harms_now)


def missed_told(live):
    """The missed texts."""
    return spaced(live.missed_now)


def remembered_told(live):
    """The remembered numbers, each with the moment of its last showing."""
    return spaced([integer_text(number) + "@" + integer_text(moment) for number, moment in live.remembered_now])


def hearer_told(live):
    """The four values of the hearer."""
    return spaced(live.book_now[2])


TELLS = {"log": log_told, "open": open_told, "next": next_told, "shown": shown_told, "harms": harms_told,
         "missed": missed_told, "remembered": remembered_told, "hearer": hearer_told}


class Desk:
    """A desk with a live hearer of a book."""

    def __init__(self, book):
        self._live = LiveHearer(book)
        self._started = 0
        self._finished = 0

    def say(self, row):
        """The answer to any string."""
        ended = self._finished + 1
        self._started = self._started + 1
        try:
            return self._answer(row)
        finally:
            self._finished = ended

    def tally(self):
        """How many calls of say were started, and how many were finished."""
        return (self._started, self._finished)

    def _answer(self, row):
        """As say, which counts it."""
        if not isinstance(row, str):
            raise NotUsable("row", -1)
        if row in TELLS:
            tell = TELLS[row]
            return tell(self._live)
        if row == "undo":
            return line_of_event(self._live.undo())
        word, _, rest = row.partition(" ")
        if word == "of" and writes_number(rest):
            return spaced(self._live[int(rest)])
        if word == "bars":
            return self._reason(row, rest)
        if "\n" in row:
            return self._renewed(row)
        return self._applied(row)

    def _reason(self, row, line):
        """The answer to a row that asks for the reason against the event of this line."""
        event = event_in(line)
        if event is None:
            raise InvalidRow(row)
        return worth_text(self._live.barred(event))

    def _renewed(self, row):
        """The answer to a row that is the lines of a book."""
        book = book_in(row)
        if book is None:
            raise InvalidRow(row)
        self._live = LiveHearer(book)
        return "ok"

    def _applied(self, row):
        """The answer to a row that is the line of an event."""
        event = event_in(row)
        if event is None:
            raise InvalidRow(row)
        answer = self._live.go(event)
        if event[0] == "begin":
            return integer_text(answer)
        return fate_told(answer) if event[0] == "hear" else spaced(answer)


def fate_told(fate):
    """The words of the answer (word, dropped, shows) to an arrival."""
    word, dropped, shows = fate
    drops = [] if dropped is None else ["drops", dropped]
    return spaced([word] + drops + (["shows"] if shows else []))


def event_in(line):
    """The event that a line writes, or None if it writes none."""
    try:
        return read_event(line)
    except InvalidText:
        return None


def book_in(row):
    """The book that a row writes, or None if it writes none."""
    try:
        return book_read(row)
    except InvalidText:
        return None
