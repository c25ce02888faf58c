"""Which values are events by form."""

from pieceswindow.kinds import fits_hearer, is_integer, is_number

# How many values follow on the word of an event.
VALUES = {"begin": 2, "hear": 3, "hearer": 4}


def is_event(thing):
    """Whether any value is an event by form."""
    if not isinstance(thing, tuple) or len(thing) == 0 or not is_event_word(thing[0]):
        return False
    word = thing[0]
    values = thing[1:]
    return len(values) == VALUES[word] and all([suits(word, k, values[k]) for k in range(len(values))])


def is_event_word(thing):
    """Whether any value is the word of a kind of events."""
    return isinstance(thing, str) and thing in VALUES


def suits(word, k, value):
    """Whether any value can be value k of an event with this word."""
    if word == "hearer":
        return fits_hearer(k, value)
    if k == 0:
        return is_integer(value)
    return is_number(value)
