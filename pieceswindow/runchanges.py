"""Changes of runs: each returns a new run."""

from pieceswindow.demands import need
from pieceswindow.errors import InvalidPaper
from pieceswindow.kinds import is_integer, is_number
from pieceswindow.runchecker import lets_run


def shifted(book, run, by):
    """The run with all moments later by so much."""
    need(is_integer(by), "by")
    begins, arrivals = run
    later = tuple([(moment + by, number) for moment, number in begins])
    return (later, tuple([(moment + by, text, part) for moment, text, part in arrivals]))


def without_arrival(book, run, k):
    """The run without arrival k."""
    begins, arrivals = run
    need(is_number(k) and k < len(arrivals), "k")
    return (begins, arrivals[:k] + arrivals[k + 1:])


def joined_runs(book, run, late):
    """The run with the texts of the run late behind those of run, and with the arrivals of both."""
    need(is_run(book, late), "late")
    both = merged(run, late)
    need(is_run(book, both), "late")
    return both


def is_run(book, thing):
    """Whether any value is a run of the book."""
    try:
        lets_run(book, thing)
    except InvalidPaper:
        return False
    return True


def merged(run, late):
    """The beginnings of both one behind the other, and the arrivals of both by their moments."""
    begins, arrivals = run
    shift = len(begins)
    behind = [(moment, text + shift, part) for moment, text, part in late[1]]
    # What is equal in this keeps its order: those of run stay ahead in the same moment.
    both = sorted(list(arrivals) + behind, key=lambda arrival: arrival[0])
    return (begins + late[0], tuple(both))
