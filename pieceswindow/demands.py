"""What is asked of parameters that may be any values."""

from pieceswindow.errors import NotUsable


def need(holds, word):
    """NotUsable with the name of the parameter if what is asked of it does not hold."""
    if not holds:
        raise NotUsable(word, -1)
