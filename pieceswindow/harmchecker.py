"""The checker of papers of harms."""

from pieceswindow.errors import InvalidPaper, NotUsable
from pieceswindow.harms import harms_of
from pieceswindow.harmways import SHUTTING, WAYS, holds
from pieceswindow.kinds import is_harm
from pieceswindow.runchecker import lets_run


def lets_harm(book, harm, thing):
    """Whether the harm can be, by a paper; InvalidPaper tells what is wrong with any other value."""
    if not is_harm(harm):
        raise NotUsable("harm", -1)
    if not has_shape(thing, len(WAYS[harm])):
        raise InvalidPaper("shape", -1)
    word, proof = thing
    if word == "run":
        check_run(book, harm, proof)
        return True
    check_reasons(book, harm, proof)
    return False


def has_shape(thing, ways):
    """Whether any value is a pair of run and any value, or of never and as many reasons by form as ways."""
    if not isinstance(thing, tuple) or len(thing) != 2 or not isinstance(thing[0], str):
        return False
    word, proof = thing
    if word != "never":
        return word == "run"
    if not isinstance(proof, tuple) or len(proof) != ways:
        return False
    return all([is_reason(reason) for reason in proof])


def is_reason(thing):
    """Whether any value is a pair of a string and a tuple."""
    if not isinstance(thing, tuple) or len(thing) != 2:
        return False
    return isinstance(thing[0], str) and isinstance(thing[1], tuple)


def check_run(book, harm, run):
    """InvalidPaper for any value that is no run which has the harm."""
    lets_run(book, run)
    if harm not in harms_of(book, run):
        raise InvalidPaper("harm", -1)


def check_reasons(book, harm, reasons):
    """InvalidPaper for the first of the reasons that does not shut its way of the harm."""
    ways = WAYS[harm]
    for k in range(len(ways)):
        word, rows = reasons[k]
        if word not in SHUTTING[ways[k]]:
            raise InvalidPaper("word", k)
        if not holds(book, ways[k], word, rows):
            raise InvalidPaper("rows", k)
