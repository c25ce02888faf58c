"""Runs of the fewest arrivals that show a harm, or what a text is missed by."""

from pieceswindow.bookparts import drop_of, numbers_of, paces_of, parts_of, pause_of, reach_of, room_of, span_of
from pieceswindow.errors import NotUsable
from pieceswindow.forms import can_be, can_be_alone, causes_of, late_of
from pieceswindow.kinds import is_cause


def harm_run(book, harm):
    """Any run that has this harm, with the fewest arrivals; None if the harm cannot be."""
    if not can_be(book, harm):
        return None
    parts = list(range(parts_of(book)))
    if harm == "joined":
        return run_of_two(book, parts[:1], parts[1:])
    if harm == "twice":
        return run_of_one(book, parts, parts)
    fewest = min([(arrivals_alone(book, cause), cause) for cause in causes_of(book)])
    return run_alone(book, fewest[1])


def cause_run(book, cause):
    """Any run with a missed text that has this cause alone, with the fewest arrivals; None if it cannot be."""
    if not is_cause(cause):
        raise NotUsable("cause", -1)
    return run_alone(book, cause) if can_be_alone(book, cause) else None


def arrivals_alone(book, cause):
    """How many arrivals run_alone has."""
    n = parts_of(book)
    if cause == "late":
        return n
    if cause == "joined":
        return n + 1
    return n + room_of(book) if cause == "crowded" else 2 * n


def run_alone(book, cause):
    """As cause_run, for a cause that can be alone."""
    parts = list(range(parts_of(book)))
    if cause == "late":
        return run_of_one(book, parts[:1], parts[1:])
    if cause == "joined":
        # The first part of the younger text is heard for nothing: the open text has one of the elder.
        return run_of_two(book, parts[:1], parts)
    if cause == "swallowed":
        return run_of_two(book, parts, parts)
    return run_refused(book) if drop_of(book) == "newest" else run_crowded(book)


def run_of_one(book, parts, later):
    """The run of one text with these parts as soon, and those of later as late, as can be."""
    first, last = span_of(book)
    arrivals = [(first, 0, part) for part in parts] + [(last, 0, part) for part in later]
    return (((0, 0),), tuple(arrivals))


def run_of_two(book, parts, later):
    """The run with these parts of a text as late as can be, and those of later, of the next text with its number,
    as soon as can be behind them."""
    begins = begins_to_reach(book)
    younger = len(begins) - 1
    first, last = span_of(book)
    moment = max(last, begins[younger][0] + first)
    arrivals = [(last, 0, part) for part in parts] + [(moment, younger, part) for part in later]
    return (begins, tuple(arrivals))


def begins_to_reach(book):
    """The beginnings of a text and of those behind it up to the next one with its number, as soon as can be."""
    reach = reach_of(book)
    if pause_of(book) == reach:
        return ((0, 0), (reach, 0))
    return paced(book, numbers_of(book)) + ((reach, 0),)


def paced(book, many):
    """The beginnings of so many texts, as close as can be; they have the numbers from 0 on."""
    a = paces_of(book)[0]
    return tuple([(k * a, k) for k in range(many)])


def run_crowded(book):
    """The run in which an open text is dropped for as many others as there is room for."""
    room = room_of(book)
    a = paces_of(book)[0]
    first = span_of(book)[0]
    # If a text is opened so late, the most others can open behind it while it waits: all the elder ones that can
    # come behind its beginning at all, in the same moment, and by then the most younger ones.
    elder = min(room, late_of(book) // a)
    opened = elder * a + first + late_of(book) % a
    others = [(max(opened, k * a + first), k, 0) for k in range(room + 1) if k != elder]
    rest = [(others[-1][0], elder, part) for part in range(1, parts_of(book))]
    return (paced(book, room + 1), tuple([(opened, elder, 0)] + others + rest))


def run_refused(book):
    """The run in which all parts of a text are dropped, since as many elder ones as there is room for are open."""
    room = room_of(book)
    a = paces_of(book)[0]
    first, last = span_of(book)
    heard = room * a + first
    others = [(min(heard, k * a + last), k, 0) for k in range(room)]
    return (paced(book, room + 1), tuple(others + [(heard, room, part) for part in range(parts_of(book))]))
