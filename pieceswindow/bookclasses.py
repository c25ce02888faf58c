"""Books as objects."""

from pieceswindow.bookchanges import road_over, with_mark
from pieceswindow.bookchecker import lets_book
from pieceswindow.bookparts import next_number, reach_of
from pieceswindow.bookreadings import book_read
from pieceswindow.booktexts import book_text
from pieceswindow.errors import NotUsable
from pieceswindow.kinds import is_hearer, is_number

WORDS = ("a", "b", "n", "copies", "numbers", "pause", "d", "late", "wait", "memory", "room", "drop")


class Book:
    """A book that never changes."""

    def __init__(self, sender, road, hearer):
        lets_book((sender, road, hearer))
        self._form = (sender, road, hearer)

    @property
    def sender(self):
        """The sender (a, b, n, copies, numbers, pause)."""
        return self._form[0]

    @property
    def road(self):
        """The road (d, late)."""
        return self._form[1]

    @property
    def hearer(self):
        """The hearer (wait, memory, room, drop)."""
        return self._form[2]

    @property
    def form(self):
        """The triple of sender, road and hearer."""
        return self._form

    @property
    def reach(self):
        """How far apart two texts with one number begin at the least."""
        return reach_of(self._form)

    def __getitem__(self, at):
        if not is_word(at):
            raise NotUsable("key", -1)
        sender, road, hearer = self._form
        values = sender + road + hearer
        return values[WORDS.index(at)]

    def __iter__(self):
        # Without it Python would iterate by __getitem__.
        raise TypeError("a Book has no iteration")

    def __contains__(self, x):
        return is_number(x) and x < self._form[0][4]

    def __call__(self, m):
        return next_number(self._form, m)

    def __str__(self):
        return str(book_text(self._form))

    def __eq__(self, other):
        return isinstance(other, Book) and self.form == other.form

    def __mul__(self, other):
        sender, road, hearer = with_mark(self._form, other)
        return Book(sender, road, hearer)

    def __mod__(self, other):
        if not is_hearer(other):
            raise NotUsable("hearer", -1)
        return Book(self._form[0], self._form[1], other)

    def __or__(self, other):
        if not isinstance(other, Book):
            raise NotUsable("other", -1)
        road = road_over((way_of(self.road), way_of(other.road)))
        if road is None:
            raise NotUsable("other", -1)
        return Book(self._form[0], road, self._form[2])

    def but(self, **more):
        """The book with these values, by their words."""
        if not all([is_word(name) for name in more]):
            raise NotUsable("more", -1)
        values = tuple([more[word] if word in more else self[word] for word in WORDS])
        return Book(values[:6], values[6:8], values[8:])

    @classmethod
    def read(cls, text):
        """The book that any string writes."""
        sender, road, hearer = book_read(text)
        return Book(sender, road, hearer)

    @staticmethod
    def of(a, late, *, b=None, n=2, copies=1, numbers=1, pause=None, d=0, wait=0, memory=0, room=1, drop="eldest"):
        """The book of these values, b being a if it is None."""
        far = a if b is None else b
        return Book((a, far, n, copies, numbers, pause), (d, late), (wait, memory, room, drop))


class Plain(Book):
    """The book with these three values, and with the least ones else."""

    def __init__(self, a, late, n):
        super().__init__((a, a, n, 1, 1, None), (0, late), (0, 0, 1, "eldest"))

    @property
    def given(self):
        """The triple of the three values."""
        return (self._form[0][0], self._form[1][1], self._form[0][2])


def is_word(thing):
    """Whether any value is the word of a value of a book."""
    return isinstance(thing, str) and thing in WORDS


def way_of(road):
    """The way (e, d, most) that a road is."""
    d, late = road
    return (0, d, d + late)
