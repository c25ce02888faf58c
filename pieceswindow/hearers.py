"""What a hearer has, and how it hears an arrival. Nothing here changes: each step makes what is new."""

from pieceswindow.bookparts import drop_of, memory_of, parts_of, room_of, wait_of


class OpenText:
    """An open text: its number, when it was opened and heard last, and of which texts its parts are."""

    def __init__(self, number, opened, heard, turn, texts):
        self.number = number
        self.opened = opened
        self.heard = heard
        # The place of its last hearing among all arrivals: moments alone do not tell which came first.
        self.turn = turn
        self.texts = texts

    def open_row(self):
        """The tuple (number, opened, heard, texts)."""
        return (self.number, self.opened, self.heard, self.texts)


class Held:
    """What a hearer has: its open texts as they were opened, its remembered numbers as they were shown, each
    with the moment of this, and how many arrivals came."""

    def __init__(self, opens, remembered, turn):
        self.opens = opens
        self.remembered = remembered
        self.turn = turn


class Fate:
    """How an arrival is heard, and what is held behind it.

    forgotten are the open texts that were forgotten at its moment, ahead is the open text that hears it, as it
    was before, dropped the open text that is dropped for it, and showing the showing by it; None if there is none."""

    def __init__(self, word, held, forgotten, *, ahead=None, dropped=None, showing=None):
        self.word = word
        self.held = held
        self.forgotten = forgotten
        self.ahead = ahead
        self.dropped = dropped
        self.showing = showing

    def told(self):
        """The triple (word, number of the open text that is dropped, whether a text is shown)."""
        number = None if self.dropped is None else self.dropped.number
        return (self.word, number, self.showing is not None)


def nothing_held():
    """What a hearer has at first."""
    return Held((), (), 0)


def fate_of(held, book, number, arrival):
    """The fate of an arrival of a text with this number, behind what is held, by the hearer of the book."""
    moment = arrival[0]
    forgotten = tuple([each for each in held.opens if moment - each.opened > wait_of(book)])
    kept = kept_at(held, book, moment)
    if number in [pair[0] for pair in kept.remembered]:
        return Fate("swallowed", kept, forgotten)
    ahead = open_text(kept, number)
    if ahead is not None:
        return heard_by_open(kept, forgotten, ahead, arrival)
    # With one part a text is shown at once and takes no room.
    if parts_of(book) == 1 or len(kept.opens) < room_of(book):
        return opened_with(kept, book, forgotten, None, number, arrival)
    if drop_of(book) == "newest":
        return Fate("refused", kept, forgotten)
    dropped = next_dropped(kept.opens, drop_of(book))
    left = without_text(kept, dropped.number)
    return opened_with(left, book, forgotten, dropped, number, arrival)


def fates_through(book, run):
    """The list of the fates of all arrivals of a run."""
    begins, arrivals = run
    held = nothing_held()
    fates = []
    for arrival in arrivals:
        fate = fate_of(held, book, begins[arrival[1]][1], arrival)
        held = fate.held
        fates.append(fate)
    return fates


def kept_at(held, book, moment):
    """What is still held when an arrival comes at this moment, that one counted."""
    opens = tuple([each for each in held.opens if moment - each.opened <= wait_of(book)])
    remembered = tuple([pair for pair in held.remembered if moment - pair[1] <= memory_of(book)])
    return Held(opens, remembered, held.turn + 1)


def open_text(held, number):
    """The open text of this number, or None."""
    for each in held.opens:
        if each.number == number:
            return each
    return None


def heard_by_open(kept, forgotten, ahead, arrival):
    """The fate of an arrival that an open text hears."""
    moment, text, part = arrival
    if ahead.texts[part] is not None:
        again = OpenText(ahead.number, ahead.opened, moment, kept.turn, ahead.texts)
        return Fate("again", with_text(kept, again), forgotten, ahead=ahead)
    texts = ahead.texts[:part] + (text,) + ahead.texts[part + 1:]
    now = OpenText(ahead.number, ahead.opened, moment, kept.turn, texts)
    return Fate("comes", settled(kept, now), forgotten, ahead=ahead, showing=showing_of(now))


def opened_with(kept, book, forgotten, dropped, number, arrival):
    """The fate of an arrival that opens a text, for which dropped has been dropped, or None."""
    moment, text, part = arrival
    n = parts_of(book)
    texts = (None,) * part + (text,) + (None,) * (n - part - 1)
    now = OpenText(number, moment, moment, kept.turn, texts)
    return Fate("opens", settled(kept, now), forgotten, dropped=dropped, showing=showing_of(now))


def showing_of(now):
    """The showing of an open text as it is now, or None if it lacks a part."""
    if None in now.texts:
        return None
    return (now.heard, now.number, now.texts)


def settled(held, now):
    """What is held when the text now has got a part: a text that has all of them is remembered instead."""
    if None in now.texts:
        return with_text(held, now)
    rest = without_text(held, now.number)
    return Held(rest.opens, rest.remembered + ((now.number, now.heard),), rest.turn)


def with_text(held, now):
    """What is held with now as the open text of its number, which keeps its place or comes behind all others."""
    if open_text(held, now.number) is None:
        return Held(held.opens + (now,), held.remembered, held.turn)
    opens = tuple([now if each.number == now.number else each for each in held.opens])
    return Held(opens, held.remembered, held.turn)


def without_text(held, number):
    """What is held without the open text of this number."""
    opens = tuple([each for each in held.opens if each.number != number])
    return Held(opens, held.remembered, held.turn)


def next_dropped(opens, drop):
    """Which of these open texts is dropped first by this rule."""
    if drop == "newest":
        return opens[-1]
    if drop == "slowest":
        return min(opens, key=lambda each: each.turn)
    return opens[0]


def narrowed(held, room, drop):
    """What is held when there is this room only, and the numbers that are dropped for this, in order."""
    numbers = []
    while len(held.opens) > room:
        number = next_dropped(held.opens, drop).number
        held = without_text(held, number)
        numbers.append(number)
    return (held, tuple(numbers))


def open_rows(held):
    """The tuples (number, opened, heard, texts) of the open texts, in the order of their opening."""
    return tuple([each.open_row() for each in held.opens])
