"""Papers of spans: when texts began, or what shuts each other out."""

from pieceswindow.boundings import bounds_of, need_heard, shut_among


def span_paper(sender, road, heard):
    """Any paper that lets_spans accepts."""
    need_heard(sender, road, heard)
    bounds = bounds_of(sender, road, heard)
    shut = shut_among(bounds)
    if shut is None:
        return ("spans", bounds)
    return ("shut", shut[0], shut[1])
