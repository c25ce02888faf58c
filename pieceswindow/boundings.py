"""What follows from what was heard for the moments at which texts began."""

from pieceswindow.demands import need
from pieceswindow.kinds import is_integer, is_number, is_road, is_sender


def need_heard(sender, road, heard):
    """NotUsable for the first of these values that is no sender, no road, or not what was heard of it."""
    need(is_sender(sender), "sender")
    need(is_road(road), "road")
    need(is_heard(sender, heard), "heard")


def is_heard(sender, thing):
    """Whether any value is a nonempty set of triples (text, part, moment) that the sender lets be heard."""
    if not isinstance(thing, tuple) or thing == ():
        return False
    if not all([is_triple(sender, each) for each in thing]):
        return False
    if not all([thing[k - 1] < thing[k] for k in range(1, len(thing))]):
        return False
    # As they ascend, more copies than there can be stand as far apart at the least.
    copies = sender[3]
    return not any([thing[k - copies][:2] == thing[k][:2] for k in range(copies, len(thing))])


def is_triple(sender, thing):
    """Whether any value is a triple of the index of a text, a part and a moment."""
    if not isinstance(thing, tuple) or len(thing) != 3:
        return False
    text, part, moment = thing
    return is_number(text) and is_number(part) and part < sender[2] and is_integer(moment)


def least_begin(sender, road, triple, k):
    """The least moment at which text k can have begun, by this triple alone."""
    text, _, moment = triple
    a, b = sender[:2]
    d, late = road
    return moment - d - late + (k - text) * (a if k >= text else b)


def greatest_begin(sender, road, triple, k):
    """The greatest moment at which text k can have begun, by this triple alone."""
    text, _, moment = triple
    a, b = sender[:2]
    return moment - road[0] + (k - text) * (b if k >= text else a)


def shut_out(sender, road, one, two):
    """Whether no run has both triples, the text of two being that of one or a later one."""
    places = two[0] - one[0]
    gap = two[2] - one[2]
    a, b = sender[:2]
    late = road[1]
    return gap < places * a - late or gap > places * b + late


def bounds_of(sender, road, heard):
    """For each text from the least to the greatest one that was heard the tuple (low, high, i, j): the least and the
    greatest moment at which it can have begun, and the indexes of the triples from which these follow."""
    return tuple([bounds_at(sender, road, heard, k) for k in range(heard[0][0], heard[-1][0] + 1)])


def bounds_at(sender, road, heard, k):
    """As bounds_of, for text k alone."""
    lows = [(least_begin(sender, road, heard[i], k), i) for i in range(len(heard))]
    highs = [(greatest_begin(sender, road, heard[j], k), j) for j in range(len(heard))]
    low, i = max(lows)
    high, j = min(highs)
    return (low, high, i, j)


def shut_among(bounds):
    """The indexes, ascending, of two triples that no run has both, by the bounds of all texts; None if there are
    none."""
    for low, high, i, j in bounds:
        if low > high:
            return (min(i, j), max(i, j))
    return None
