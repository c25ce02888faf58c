"""How books are written."""

from pieceswindow.kinds import PARTS


def book_text(book):
    """The three lines of a book."""
    return "\n".join([line_text(part, row) for part, row in zip(PARTS, book)])


def line_text(word, values):
    """A word and its values, with single spaces between."""
    return " ".join([word, *[value_text(value) for value in values]])


def value_text(value):
    """A number, a word, or - for None."""
    if value is None:
        return "-"
    if isinstance(value, str):
        return value
    return number_text(value)


def number_text(number):
    """The digits of a number."""
    # Python itself refuses to write numbers of some thousand digits at once.
    chunk = 10 ** 60
    text = ""
    while number >= chunk:
        digits = str(number % chunk).zfill(60)
        text = f"{digits}{text}"
        number = number // chunk
    return f"{number}{text}"
