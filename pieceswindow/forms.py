"""What can happen for a book, by forms in its numbers."""

from pieceswindow.bookparts import copies_of, drop_of, memory_of, numbers_of, paces_of
from pieceswindow.bookparts import parts_of, reach_of, room_of, wait_of
from pieceswindow.errors import NotUsable
from pieceswindow.kinds import CAUSES, HARMS, is_harm


def crowd_of(book):
    """The greatest number of other texts that can stand in the way of one text."""
    a = paces_of(book)[0]
    late = late_of(book)
    wait = wait_of(book)
    # The two counts of elder and younger texts reach the whole of (late + wait) // a only if
    # a multiple of a lies above wait and not above late; otherwise each is late // a at most.
    if drop_of(book) == "newest" or wait // a < late // a:
        return (wait + late) // a
    return 2 * (late // a)


def can_be(book, harm):
    """Whether there is a run of the book that has this harm."""
    if not is_harm(harm):
        raise NotUsable("harm", -1)
    if harm == "joined":
        return can_join(book)
    if harm == "twice":
        return copies_of(book) >= 2 and late_of(book) > memory_of(book)
    return causes_of(book) != ()


def harms_that_can(book):
    """The set of the harms that can be."""
    return tuple([harm for harm in HARMS if can_be(book, harm)])


def causes_of(book):
    """The set of the causes that a missed text can have alone."""
    return tuple([cause for cause in CAUSES if can_be_alone(book, cause)])


def is_harmless(book):
    """Whether no harm can be."""
    return harms_that_can(book) == ()


def late_of(book):
    """How far apart two parts of one text can arrive at the most."""
    return book[1][1]


def can_be_alone(book, cause):
    """Whether a text can be missed by this cause and no other."""
    if cause == "swallowed":
        return reach_of(book) <= late_of(book) + memory_of(book)
    if cause == "joined":
        return can_join(book)
    if cause == "late":
        return parts_of(book) >= 2 and late_of(book) > wait_of(book)
    return can_crowd(book)


def can_join(book):
    """Whether parts of two texts can be joined."""
    return parts_of(book) >= 2 and reach_of(book) <= late_of(book) + wait_of(book)


def can_crowd(book):
    """Whether other texts can take the room of a text."""
    room = room_of(book)
    return parts_of(book) >= 2 and room <= crowd_of(book) and room < numbers_of(book)
