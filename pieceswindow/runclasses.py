"""Runs as objects."""

from pieceswindow.errors import NotUsable
from pieceswindow.harms import harms_of, missed_texts
from pieceswindow.hearing import fates_of, showings_of
from pieceswindow.kinds import is_number
from pieceswindow.runchanges import joined_runs, shifted, without_arrival
from pieceswindow.runchecker import is_arrival, lets_run


class Run:
    """A run of a book; it never changes."""

    def __init__(self, book, begins, arrivals):
        lets_run(book, (begins, arrivals))
        self._book = book
        self._run = (begins, arrivals)

    @property
    def book_now(self):
        """The book."""
        return self._book

    @property
    def begins_now(self):
        """The beginnings (moment, number) of the texts."""
        return self._run[0]

    @property
    def arrivals_now(self):
        """The arrivals (moment, text, part)."""
        return self._run[1]

    @property
    def run_now(self):
        """The pair of the beginnings and the arrivals."""
        return self._run

    @property
    def showings_now(self):
        """The showings (moment, number, texts), in order."""
        return showings_of(self._book, self._run)

    @property
    def harms_now(self):
        """The set of the harms."""
        return harms_of(self._book, self._run)

    @property
    def missed_now(self):
        """The set of the missed texts."""
        return missed_texts(self._book, self._run)

    def __getitem__(self, at):
        if not is_number(at) or at >= len(self._run[1]):
            raise NotUsable("k", -1)
        return fates_of(self._book, self._run)[at]

    def __iter__(self):
        # Without it Python would iterate by __getitem__.
        raise TypeError("a Run has no iteration")

    def __contains__(self, x):
        return is_arrival(self._book, self._run[0], x) and x in self._run[1]

    def __len__(self):
        return len(self._run[1])

    def __bool__(self):
        return not harms_of(self._book, self._run)

    def __eq__(self, other):
        return isinstance(other, Run) and self.book_now == other.book_now and self.run_now == other.run_now

    def __add__(self, other):
        begins, arrivals = self._run
        return Run(self._book, begins, arrivals + (other,))

    def __sub__(self, other):
        begins, arrivals = without_arrival(self._book, self._run, other)
        return Run(self._book, begins, arrivals)

    def later(self, by):
        """The Run with all moments later by so much."""
        begins, arrivals = shifted(self._book, self._run, by)
        return Run(self._book, begins, arrivals)

    def then(self, late):
        """The Run with the texts of the Run late behind these, and with the arrivals of both."""
        if not isinstance(late, Run) or late.book_now != self._book:
            raise NotUsable("late", -1)
        begins, arrivals = joined_runs(self._book, self._run, late.run_now)
        return Run(self._book, begins, arrivals)

    @staticmethod
    def of(book, run):
        """The Run of a run."""
        lets_run(book, run)
        begins, arrivals = run
        return Run(book, begins, arrivals)
