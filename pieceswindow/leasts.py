"""The least and the greatest values with which a book is harmless, all else being as it is in it."""

from pieceswindow.alike import again_of
from pieceswindow.bookchanges import with_memory, with_numbers, with_pause, with_room, with_wait
from pieceswindow.bookparts import drop_of, memory_of, paces_of, parts_of, reach_of, room_of, wait_of
from pieceswindow.drops import room_by
from pieceswindow.forms import is_harmless, late_of


def least_numbers(book):
    """The least numbers with which the book is harmless; None if it is with none."""
    numbers = reach_to_pass(book) // paces_of(book)[0] + 1
    return numbers if is_harmless(with_numbers(book, numbers)) else None


def least_wait(book):
    """The least wait with which the book is harmless; None if it is with none."""
    wait = wait_needed(book)
    return wait if is_harmless(with_wait(book, wait)) else None


def greatest_wait(book):
    """The greatest wait with which the book is harmless; None if it is with none, or if there is no greatest one."""
    if parts_of(book) == 1 or least_wait(book) is None:
        return None
    reach = reach_of(book)
    if drop_of(book) == "newest":
        # By the other rules more wait than late does not let more texts stand in the way.
        reach = min(reach, room_of(book) * paces_of(book)[0])
    return reach - late_of(book) - 1


def least_memory(book):
    """The least memory with which the book is harmless; None if it is with none."""
    memory = again_of(book)
    return memory if is_harmless(with_memory(book, memory)) else None


def greatest_memory(book):
    """The greatest memory with which the book is harmless; None if it is with none."""
    if least_memory(book) is None:
        return None
    return reach_of(book) - late_of(book) - 1


def least_room(book):
    """The least room with which the book is harmless; None if it is with none."""
    room = room_by(book, drop_of(book))
    return room if is_harmless(with_room(book, room)) else None


def least_pause(book):
    """The least pause, a number, with which the book is harmless; None if it is with none."""
    pause = max(paces_of(book)[0], reach_to_pass(book) + 1)
    return pause if is_harmless(with_pause(book, pause)) else None


def wait_needed(book):
    """The least wait with which no text can come too late for itself."""
    return late_of(book) if parts_of(book) >= 2 else 0


def reach_to_pass(book):
    """The greatest reach with which a number of a text would still be open or remembered when it comes again."""
    kept = memory_of(book)
    if parts_of(book) >= 2:
        kept = max(kept, wait_of(book))
    return late_of(book) + kept
