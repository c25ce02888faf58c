"""What a number that is heard behind another one can mean."""

from pieceswindow.demands import need
from pieceswindow.kinds import is_number, is_road, is_sender


def meanings_of(sender, road, number, gap, late_number):
    """The set of the k such that an arrival with late_number, gap behind one with number, can be of the text k
    behind that one's."""
    need(is_stopless(sender), "sender")
    need(is_road(road), "road")
    need(is_number_of(sender, number), "number")
    need(is_number(gap), "gap")
    need(is_number_of(sender, late_number), "late_number")
    numbers = sender[4]
    least, greatest = places_behind(sender, road, gap)
    first = least + (late_number - number - least) % numbers
    return tuple([k for k in range(first, greatest + 1, numbers) if k != 0 or not is_once(sender)])


def sure_numbers(sender, road, gap):
    """The least number of numbers with which no number has two meanings up to this gap."""
    need(is_stopless(sender), "sender")
    need(is_road(road), "road")
    need(is_number(gap), "gap")
    return max([numbers_apart(sender, road, behind) for behind in range(gap + 1)])


def is_stopless(thing):
    """Whether any value is a sender without stops."""
    return is_sender(thing) and thing[5] is None


def is_number_of(sender, thing):
    """Whether any value is a number that a text of the sender can have."""
    return is_number(thing) and thing < sender[4]


def is_once(sender):
    """Whether each text arrives once at the most, so that two arrivals are of two texts."""
    return sender[2] == 1 and sender[3] == 1


def places_behind(sender, road, gap):
    """The least and the greatest k such that an arrival can be gap behind one of the text k ahead of its own; 0
    is among them even if each text arrives once at the most."""
    a, b = sender[:2]
    late = road[1]
    if gap <= late:
        return (-((late - gap) // a), (gap + late) // a)
    # Rounded up: texts that begin so far apart are at least so many places apart.
    return ((gap - late + b - 1) // b, (gap + late) // a)


def numbers_apart(sender, road, gap):
    """The least number of numbers with which no number has two meanings at just this gap."""
    least, greatest = places_behind(sender, road, gap)
    if is_once(sender) and least == 0:
        # Where 0 stands between two others, no fewer numbers are enough without it.
        least = 1
    return max(greatest - least + 1, 1)
