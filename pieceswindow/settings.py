"""The hearers with which no harm can be behind a sender and a road."""

from pieceswindow.alike import again_of
from pieceswindow.demands import need
from pieceswindow.forms import is_harmless
from pieceswindow.kinds import at_least, is_drop, is_road, is_sender
from pieceswindow.leasts import greatest_memory, greatest_wait, least_memory, least_numbers, least_wait, wait_needed


def harmless_settings(sender, road, *, room, drop):
    """The pairs (least, greatest) of the waits and of the memories with which the book is harmless; None if none is."""
    book = book_of_least(sender, road, room, drop)
    if not is_harmless(book):
        return None
    return ((least_wait(book), greatest_wait(book)), (least_memory(book), greatest_memory(book)))


def narrowest(sender, road, *, room, drop):
    """The least numbers with which some hearer with this room and rule is harmless, and such a hearer; None if none
    is."""
    book = book_of_least(sender, road, room, drop)
    numbers = least_numbers(book)
    return None if numbers is None else (numbers, book[2])


def book_of_least(sender, road, room, drop):
    """The book with the least wait and memory that no text is too late for, or shown twice behind; if it is not
    harmless, it is so with no others."""
    need(is_sender(sender), "sender")
    need(is_road(road), "road")
    need(at_least(room, 1), "room")
    need(is_drop(drop), "drop")
    book = (sender, road, (0, 0, room, drop))
    return (sender, road, (wait_needed(book), again_of(book), room, drop))
