"""How written events and logs are read."""

from pieceswindow.bookreadings import book_read, worth_of, writes_number
from pieceswindow.errors import InvalidText, NotUsable
from pieceswindow.kinds import PARTS
from pieceswindow.liveevents import VALUES, is_event_word, suits


def read_event(text):
    """The event that any string writes; InvalidText tells where it does not."""
    if not isinstance(text, str):
        raise NotUsable("text", -1)
    return event_read(text, 0)


def read_log(lines):
    """The log that a list of strings writes; InvalidText tells where it does not."""
    if not are_lines(lines):
        raise NotUsable("lines", -1)
    heads = len(PARTS)
    book = book_read("\n".join(lines[:heads]))
    events = [event_read(lines[line], line) for line in range(heads, len(lines))]
    return (("live", book),) + tuple(events)


def are_lines(thing):
    """Whether any value is a list of strings without newlines."""
    return isinstance(thing, list) and all([isinstance(row, str) and "\n" not in row for row in thing])


def event_read(text, line):
    """The event that the text of this line writes."""
    words = text.split(" ")
    if not is_event_word(words[0]):
        raise InvalidText(line, 0)
    event = [words[0]]
    for field in range(1, len(words)):
        event.append(event_worth(words[field]))
        if field > VALUES[words[0]] or not suits(words[0], field - 1, event[-1]):
            raise InvalidText(line, field)
    if len(words) <= VALUES[words[0]]:
        raise InvalidText(line, len(words))
    return tuple(event)


def event_worth(word):
    """What a word writes: an integer, also below 0, None for -, and otherwise itself."""
    if word.startswith("-") and word != "-0" and writes_number(word[1:]):
        return -int(word[1:])
    return worth_of(word)
