"""What a hearer hears of a run."""

from pieceswindow.hearers import fates_through, nothing_held, open_rows


def showings_of(book, run):
    """The showings (moment, number, texts), in their order."""
    return tuple([fate.showing for fate in fates_through(book, run) if fate.showing is not None])


def fates_of(book, run):
    """For each arrival the triple (word, number that is dropped for it, whether a text is shown)."""
    return tuple([fate.told() for fate in fates_through(book, run)])


def open_of(book, run):
    """The open texts (number, opened, heard, texts) behind the run, in the order of their opening."""
    return open_rows(held_behind(book, run))


def remembered_of(book, run):
    """The set of the remembered numbers (number, moment) behind the run."""
    return tuple(sorted(held_behind(book, run).remembered))


def held_behind(book, run):
    """What is held when all arrivals of the run are heard."""
    fates = fates_through(book, run)
    return fates[-1].held if fates else nothing_held()
