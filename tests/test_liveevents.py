import unittest

from pieceswindow.live import LiveHearer
from pieceswindow.liveevents import is_event
from tests.samples import BOOK, NO_BOOKS, NO_INTEGERS, NO_NUMBERS, nested, replaced

EVENTS = (('begin', 0, 0), ('begin', -5, 3), ('hear', 0, 0, 0), ('hear', -10 ** 59, 10 ** 59, 10 ** 59),
          ('hearer', 4, 1, 2, 'eldest'), ('hearer', 0, 0, 1, 'newest'), ('hearer', 10 ** 59, 10 ** 59, 1, 'slowest'))


class TestEvents(unittest.TestCase):

    def good(self, *things):
        for thing in things:
            self.assertIs(is_event(thing), True, thing)

    def bad(self, *things):
        for thing in things:
            self.assertIs(is_event(thing), False, thing)

    def places(self, event, k, good, bad):
        self.good(*[replaced(event, k, value) for value in good])
        self.bad(*[replaced(event, k, value) for value in bad])

    def test_events(self):
        self.good(*EVENTS)
        self.assertIs(is_event(thing=('begin', 0, 0)), True)

    def test_moments(self):
        for event in EVENTS[:4]:
            self.places(event, 1, (0, 1, -1, 10 ** 59, -10 ** 59), NO_INTEGERS)

    def test_numbers(self):
        for event, k in ((EVENTS[0], 2), (EVENTS[2], 2), (EVENTS[2], 3), (EVENTS[4], 1), (EVENTS[4], 2)):
            self.places(event, k, (0, 1, 10 ** 59), NO_NUMBERS)

    def test_hearers(self):
        self.places(EVENTS[4], 3, (1, 2, 10 ** 59), (0,) + NO_NUMBERS)
        no_rules = ('', 'Eldest', 'fullest', 'late', 0, None, True, [], ['eldest'], ('eldest',))
        self.places(EVENTS[4], 4, ('eldest', 'newest', 'slowest'), no_rules)

    def test_words(self):
        for event in EVENTS:
            self.places(event, 0, (), ('', 'Begin', 'hears', 'live', 'undo', None, True, 0, [], ['begin'], ('begin',)))
        self.bad(('hear', 0, 0), ('begin', 0, 0, 0), ('hearer', 0, 0, 0), ('begin', 4, 1, 2, 'eldest'))

    def test_lengths(self):
        for event in EVENTS:
            self.bad(event + (0,), event + (None,), (0,) + event, (event,), (event, event))
            self.bad(*[event[:many] for many in range(len(event))])

    def test_lists(self):
        for event in EVENTS:
            self.bad(list(event), [event], [list(event)])

    def test_any_values(self):
        self.bad(*NO_BOOKS)
        self.bad('begin 0 0', 0, BOOK, BOOK[2], nested(30), ('begin', nested(29), 0), LiveHearer(BOOK), LiveHearer)
        self.bad((LiveHearer(BOOK), 0, 0), ('begin', 0, LiveHearer(BOOK)), ('begin',) * 3)


if __name__ == '__main__':
    unittest.main()
