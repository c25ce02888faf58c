"""Papers of harms: a run that has the harm, or a reason against each of its ways."""

from pieceswindow.bookparts import paces_of, reach_of
from pieceswindow.forms import late_of
from pieceswindow.harmruns import harm_run
from pieceswindow.harmways import SHUTTING, WAYS, holds, most_beside


def harm_paper(book, harm):
    """Any paper that lets_harm accepts."""
    run = harm_run(book, harm)
    if run is not None:
        return ("run", run)
    return ("never", tuple([shutting_reason(book, way) for way in WAYS[harm]]))


def shutting_reason(book, way):
    """The first reason that shuts this way, by which no harm can come; so one does."""
    for word in SHUTTING[way]:
        # The rows of a long road are many, and are not made if a reason ahead of them holds.
        rows = rows_for(book, word)
        if holds(book, way, word, rows):
            return (word, rows)
    return None


def rows_for(book, word):
    """The rows with which a reason with this word holds, if it does with any."""
    if word == "apart":
        return (reach_of(book) - late_of(book),)
    if word == "counts":
        return tuple([counts_beside(book, x) for x in range(late_of(book) + 1)])
    return ()


def counts_beside(book, x):
    """How many elder and how many younger texts can stand beside one, for this x from 0 to late."""
    a = paces_of(book)[0]
    most_elder, most_younger = most_beside(book, x)
    return (most_elder // a, most_younger // a)
