"""The harms of a run, and the causes of what is missed."""

from pieceswindow.bookparts import parts_of
from pieceswindow.errors import NotUsable
from pieceswindow.hearers import fates_through
from pieceswindow.hearing import showings_of
from pieceswindow.kinds import is_number
from pieceswindow.showings import harms_among, missed_among, shown_counts


def harms_of(book, run):
    """The set of the harms of the run."""
    showings = showings_of(book, run)
    return harms_among(showings, missed_among(parts_of(book), run[1], showings))


def missed_texts(book, run):
    """The set of the missed texts."""
    return missed_among(parts_of(book), run[1], showings_of(book, run))


def shown_texts(book, run):
    """The set of the pairs (text, many) for each text of which showings have all parts."""
    return shown_counts(showings_of(book, run))


def causes_in(book, run, text):
    """The set of the causes of a missed text."""
    if not is_number(text) or text not in missed_texts(book, run):
        raise NotUsable("text", -1)
    causes = []
    for fate, arrival in zip(fates_through(book, run), run[1]):
        causes = causes + causes_by(fate, arrival[1], text)
    return tuple(sorted(set(causes)))


def causes_by(fate, arrived, text):
    """The causes for which a text can be missed that an arrival of the text arrived gives, by its fate."""
    own = arrived == text
    causes = []
    if own and fate.word == "swallowed":
        causes.append("swallowed")
    if any([text in each.texts for each in fate.forgotten]):
        causes.append("late")
    if (own and fate.word == "refused") or (fate.dropped is not None and text in fate.dropped.texts):
        causes.append("crowded")
    if fate.ahead is not None and is_joined_by(fate, own, text):
        causes.append("joined")
    return causes


def is_joined_by(fate, own, text):
    """Whether an open text that hears an arrival, of the text itself if own, joins the text with another."""
    if own:
        return any([each is not None and each != text for each in fate.ahead.texts])
    return fate.word == "comes" and text in fate.ahead.texts
