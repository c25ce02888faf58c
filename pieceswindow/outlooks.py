"""What can happen for a book, as an object."""

from pieceswindow.errors import NotUsable
from pieceswindow.forms import causes_of, crowd_of, harms_that_can
from pieceswindow.harmpapers import harm_paper
from pieceswindow.harmruns import harm_run
from pieceswindow.kinds import HARMS, fits_hearer, is_book, is_harm

WORDS = ("wait", "memory", "room", "drop")


class Outlook:
    """What can happen for a book; it never changes."""

    def __init__(self, book):
        if not is_book(book):
            raise NotUsable("book", -1)
        self._book = book
        self._harms = harms_that_can(book)

    @property
    def book_now(self):
        """The book."""
        return self._book

    @property
    def harms_now(self):
        """The set of the harms that can be."""
        return self._harms

    @property
    def causes_now(self):
        """The set of the causes that a missed text can have alone."""
        return causes_of(self._book)

    @property
    def crowd_now(self):
        """The greatest number of other texts that can stand in the way of one text."""
        return crowd_of(self._book)

    def __getitem__(self, at):
        return harm_run(self._book, at)

    def __contains__(self, x):
        return is_harm(x) and x in self._harms

    def __len__(self):
        return len(self._harms)

    def __iter__(self):
        return iter(self._harms)

    def __bool__(self):
        return not self._harms

    def __str__(self):
        return str(",".join(self._harms) or "-")

    def __eq__(self, other):
        return isinstance(other, Outlook) and self.book_now == other.book_now

    def papers(self):
        """Yields the pairs (harm, paper that lets_harm accepts) for the three harms, ascending."""
        for harm in HARMS:
            yield (harm, harm_paper(self._book, harm))

    def with_hearer(self, *, wait=None, memory=None, room=None, drop=None):
        """The Outlook of the book with these values in its hearer; what is None stays as it is."""
        values = (wait, memory, room, drop)
        for k in range(len(WORDS)):
            if values[k] is not None and not fits_hearer(k, values[k]):
                raise NotUsable(WORDS[k], -1)
        sender, road, hearer = self._book
        now = tuple([old if value is None else value for old, value in zip(hearer, values)])
        return Outlook((sender, road, now))

    def lies_in(self, other):
        """Whether each harm that can be here can be for the other Outlook, too."""
        if not isinstance(other, Outlook):
            raise NotUsable("other", -1)
        return all([harm in other.harms_now for harm in self._harms])
