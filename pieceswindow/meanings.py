"""What a number that is heard behind another one can mean."""

from pieceswindow.errors import NotUsable
from pieceswindow.kinds import is_number, is_road, is_sender


def meanings_of(sender, road, number, gap, late_number):
    """The set of the k such that an arrival with late_number, gap behind one with number, can be of the text k
    behind that one's."""
    check_sender(sender)
    check_road(road)
    numbers = sender[4]
    check_number("number", number, numbers)
    check_gap(gap)
    check_number("late_number", late_number, numbers)
    least, greatest = places_behind(sender, road, gap)
    first = least + (late_number - number - least) % numbers
    return tuple([k for k in range(first, greatest + 1, numbers) if k != 0 or not is_once(sender)])


def sure_numbers(sender, road, gap):
    """The least number of numbers with which no number has two meanings up to this gap."""
    check_sender(sender)
    check_road(road)
    check_gap(gap)
    return max([numbers_apart(sender, road, behind) for behind in range(gap + 1)])


def check_sender(sender):
    """NotUsable for any value that is no sender without stops."""
    if not is_sender(sender) or sender[5] is not None:
        raise NotUsable("sender", -1)


def check_road(road):
    """NotUsable for any value that is no road."""
    if not is_road(road):
        raise NotUsable("road", -1)


def check_number(word, value, numbers):
    """NotUsable with the word for any value that is no number less than numbers."""
    if not is_number(value) or value >= numbers:
        raise NotUsable(word, -1)


def check_gap(gap):
    """NotUsable for any value that is no number."""
    if not is_number(gap):
        raise NotUsable("gap", -1)


def is_once(sender):
    """Whether each text arrives once at the most, so that two arrivals are of two texts."""
    return sender[2] == 1 and sender[3] == 1


def places_behind(sender, road, gap):
    """The least and the greatest k such that an arrival can be gap behind one of the text k ahead of its own; 0
    is among them even if each text arrives once at the most."""
    a, b = sender[:2]
    late = road[1]
    if gap <= late:
        return (-((late - gap) // a), (gap + late) // a)
    # Rounded up: texts that begin so far apart are at least so many places apart.
    return ((gap - late + b - 1) // b, (gap + late) // a)


def numbers_apart(sender, road, gap):
    """The least number of numbers with which no number has two meanings at just this gap."""
    least, greatest = places_behind(sender, road, gap)
    if is_once(sender) and least == 0:
        # Where 0 stands between two others, no fewer numbers are enough without it.
        least = 1
    return max(greatest - least + 1, 1)
