"""How the line of an event, and values beside each other, are written."""

from pieceswindow.booktexts import number_text


def line_of_event(event):
    """The line of an event by form: its word, and behind it its values."""
    return spaced(event)


def spaced(values):
    """The values with single spaces between, - if there are none."""
    return " ".join([worth_text(value) for value in values]) or "-"


def with_commas(values):
    """The values with commas between."""
    return ",".join([worth_text(value) for value in values])


def slashed(texts):
    """The texts with " / " between, - if there are none."""
    return " / ".join(texts) or "-"


def worth_text(value):
    """A word, an integer, or - for None."""
    if value is None:
        return "-"
    if isinstance(value, str):
        return value
    return integer_text(value)


def integer_text(value):
    """The digits of an integer, with a minus ahead if it is less than 0."""
    if value < 0:
        return f"-{number_text(-value)}"
    return number_text(value)
