"""The ways by which harms come, and the reasons that shut them."""

from pieceswindow.bookparts import copies_of, drop_of, memory_of, numbers_of, paces_of
from pieceswindow.bookparts import parts_of, reach_of, room_of, wait_of
from pieceswindow.forms import late_of
from pieceswindow.kinds import is_integer, is_number

WAYS = {"joined": ("joined",), "twice": ("twice",), "missed": ("swallowed", "joined", "late", "crowded")}
# The words of the reasons that can shut a way.
SHUTTING = {"swallowed": ("apart",), "joined": ("parts", "apart"), "late": ("parts", "kept"),
            "crowded": ("parts", "numbers", "counts"), "twice": ("copies", "kept")}


def holds(book, way, word, rows):
    """Whether a reason with this word, one of those for the way, and with these rows holds."""
    if word == "apart":
        return holds_apart(book, way, rows)
    if word == "counts":
        return holds_counts(book, rows)
    return len(rows) == 0 and holds_alone(book, way, word)


def holds_alone(book, way, word):
    """Whether what a reason without rows says is so."""
    if word == "parts":
        return parts_of(book) == 1
    if word == "copies":
        return copies_of(book) == 1
    if word == "numbers":
        return room_of(book) >= numbers_of(book)
    kept = wait_of(book) if way == "late" else memory_of(book)
    return late_of(book) <= kept


def holds_apart(book, way, rows):
    """Whether the rows are a gap that lies between texts with one number, and is too long for the way."""
    if len(rows) != 1 or not is_integer(rows[0]):
        return False
    kept = memory_of(book) if way == "swallowed" else wait_of(book)
    return kept < rows[0] and rows[0] <= reach_of(book) - late_of(book)


def holds_counts(book, rows):
    """Whether the rows count the elder and the younger texts for each moment of an arrival within late."""
    if len(rows) != late_of(book) + 1:
        return False
    return all([holds_count(book, x, rows[x]) for x in range(len(rows))])


def holds_count(book, x, row):
    """Whether any value bounds how many texts stand beside one with a part that arrives x behind the first."""
    if not isinstance(row, tuple) or len(row) != 2 or not is_number(row[0]) or not is_number(row[1]):
        return False
    a = paces_of(book)[0]
    most_elder, most_younger = most_beside(book, x)
    elder, younger = row
    if most_elder >= (elder + 1) * a or most_younger >= (younger + 1) * a:
        return False
    return elder + younger < room_of(book)


def most_beside(book, x):
    """By how much other texts can be elder, and by how much younger, for this x from 0 to late."""
    rest = late_of(book) - x
    if drop_of(book) == "newest":
        return (wait_of(book) + rest, x)
    return (rest, x + min(wait_of(book), rest))
