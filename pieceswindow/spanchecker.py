"""The checker of papers of spans."""

from pieceswindow.boundings import greatest_begin, least_begin, need_heard, shut_out
from pieceswindow.errors import InvalidPaper
from pieceswindow.kinds import is_integer, is_number


def lets_spans(sender, road, heard, thing):
    """Whether there are runs that have all of heard, by a paper; InvalidPaper tells what is wrong with any other
    value."""
    need_heard(sender, road, heard)
    if is_shut_paper(heard, thing):
        if not shut_out(sender, road, heard[thing[1]], heard[thing[2]]):
            raise InvalidPaper("shut", -1)
        return False
    if not is_spans_paper(heard, thing):
        raise InvalidPaper("shape", -1)
    check_ends(sender, road, heard, thing[1])
    check_paces(sender, thing[1])
    check_moments(road, heard, thing[1])
    return True


def is_shut_paper(heard, thing):
    """Whether any value is the word shut with two ascending indexes of heard."""
    if not isinstance(thing, tuple) or len(thing) != 3:
        return False
    word, i, j = thing
    return isinstance(word, str) and word == "shut" and is_index(heard, i) and is_index(heard, j) and i < j


def is_spans_paper(heard, thing):
    """Whether any value is the word spans with a row by form for each text."""
    if not isinstance(thing, tuple) or len(thing) != 2:
        return False
    word, rows = thing
    if not isinstance(word, str) or word != "spans" or not isinstance(rows, tuple):
        return False
    texts = heard[-1][0] - heard[0][0] + 1
    return len(rows) == texts and all([is_row(heard, row) for row in rows])


def is_row(heard, thing):
    """Whether any value is a quadruple of two integers and two indexes of heard."""
    if not isinstance(thing, tuple) or len(thing) != 4:
        return False
    low, high, i, j = thing
    return is_integer(low) and is_integer(high) and is_index(heard, i) and is_index(heard, j)


def is_index(heard, thing):
    """Whether any value is the index of an element of heard."""
    return is_number(thing) and thing < len(heard)


def check_ends(sender, road, heard, rows):
    """InvalidPaper for the first end of a span that does not follow from its element."""
    for k in range(len(rows)):
        low, high, i, j = rows[k]
        text = heard[0][0] + k
        if low != least_begin(sender, road, heard[i], text):
            raise InvalidPaper("low", k)
        if high != greatest_begin(sender, road, heard[j], text):
            raise InvalidPaper("high", k)


def check_paces(sender, rows):
    """InvalidPaper for the first row whose ends are no pace of the sender behind those of the row before."""
    a, b = sender[:2]
    for k in range(1, len(rows)):
        paces = (rows[k][0] - rows[k - 1][0], rows[k][1] - rows[k - 1][1])
        if min(paces) < a or max(paces) > b:
            raise InvalidPaper("pace", k)


def check_moments(road, heard, rows):
    """InvalidPaper for the first element that cannot have come behind both ends of the span of its text."""
    d, late = road
    for m in range(len(heard)):
        text, _, moment = heard[m]
        low, high = rows[text - heard[0][0]][:2]
        behind = (moment - low, moment - high)
        if min(behind) < d or max(behind) > d + late:
            raise InvalidPaper("span", m)
