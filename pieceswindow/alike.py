"""Whether the same harms can be for two books, and with which hearers they cannot."""

from pieceswindow.bookparts import copies_of, numbers_of, paces_of, parts_of, reach_of
from pieceswindow.errors import NotUsable
from pieceswindow.forms import harms_that_can, late_of
from pieceswindow.kinds import is_book


def are_alike(book, other):
    """Whether the same harms can be for both books."""
    check_other(other)
    return harms_that_can(book) == harms_that_can(other)


def parting_hearer(book, other):
    """Any hearer with which not the same harms can be behind the senders and roads; or None."""
    check_other(other)
    again = (again_of(book), again_of(other))
    if again[0] != again[1]:
        return (0, min(again), 1, "eldest")
    gaps = (gap_of(book), gap_of(other))
    single = (parts_of(book) == 1, parts_of(other) == 1)
    if single[0] != single[1]:
        # Only the one with several parts can have parts joined, and with such a wait it has.
        return (gaps[1] if single[0] else gaps[0], 0, 1, "eldest")
    if gaps[0] != gaps[1]:
        # The lesser gap lets a text be joined, or a single part be swallowed, the other does not.
        return (min(gaps), min(gaps), 1, "eldest")
    if single[0]:
        return None
    return parting_below_gap(book, other)


def same_roads(book, other):
    """Whether the same harms can be for both books with any equal hearers."""
    return parting_hearer(book, other) is None


def check_other(other):
    """NotUsable for any value that is no book."""
    if not is_book(other):
        raise NotUsable("other", -1)


def gap_of(book):
    """The least wait, and the least memory, that is too long for the numbers of the book."""
    return max(reach_of(book) - late_of(book), 0)


def again_of(book):
    """The least memory with which no text can be shown twice."""
    return late_of(book) if copies_of(book) >= 2 else 0


def parting_below_gap(book, other):
    """As parting_hearer, for books of several parts and with an equal gap."""
    lates = (late_of(book), late_of(other))
    gap = gap_of(book)
    if gap <= lates[0] and gap <= lates[1]:
        return None
    if lates[0] != lates[1]:
        # With the lesser late as wait, which is below the gap, only the other one can be late.
        return (min(lates), 0, max(numbers_of(book), numbers_of(other)), "newest")
    return parting_by_crowd(paces_of(book)[0], paces_of(other)[0], lates[0], gap)


def parting_by_crowd(a, other_a, late, gap):
    """As parting_hearer, where only how many texts begin within a while can tell the books."""
    if a == other_a:
        return None
    begun = 2 * late
    if begun // a == begun // other_a:
        # The first moment from which the texts of the two are not equally many any more.
        begun = min(a, other_a) * (begun // a + 1)
    if begun >= late + gap:
        return None
    return (begun - late, 0, max(begun // a, begun // other_a), "newest")
