"""How written books are read."""

from pieceswindow.errors import InvalidText, NotUsable
from pieceswindow.kinds import PARTS, SIZES, fits

MOST_DIGITS = 60


def book_read(text):
    """The book that any string writes; InvalidText tells where it does not."""
    if not isinstance(text, str):
        raise NotUsable("text", -1)
    lines = text.split("\n")
    book = tuple([part_read(lines, line) for line in range(len(PARTS))])
    if len(lines) > len(PARTS):
        raise InvalidText(len(PARTS), 0)
    return book


def part_read(lines, line):
    """The part of a book that this line writes."""
    if line >= len(lines):
        raise InvalidText(len(lines), 0)
    part = PARTS[line]
    words = lines[line].split(" ")
    if words[0] != part:
        raise InvalidText(line, 0)
    return values_read(part, words, line)


def values_read(part, words, line):
    """The values of a part of a book, which these words write behind the first one."""
    values = []
    for field in range(1, len(words)):
        values.append(worth_of(words[field]))
        if field > SIZES[part] or not fits(part, field - 1, values[-1], values[0]):
            raise InvalidText(line, field)
    if len(values) < SIZES[part]:
        raise InvalidText(line, len(words))
    return tuple(values)


def worth_of(word):
    """What a word writes: a number, None for -, and otherwise itself."""
    if word == "-":
        return None
    if writes_number(word):
        return int(word)
    return word


def writes_number(word):
    """Whether a word is the digits of a number, as many as can be and no zero ahead of others."""
    if not word.isascii() or not word.isdigit() or len(word) > MOST_DIGITS:
        return False
    return word == "0" or word[0] != "0"
