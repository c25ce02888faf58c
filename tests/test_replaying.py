import unittest

from pieceswindow.live import LiveHearer
from pieceswindow.replaying import is_log, replayed
from tests.samples import BOOK, NO_BOOKS, book_with, nested
from tests.test_live import LiveChecks, behind, book, snapshot

HEAD = ('live', BOOK)
EVENTS = (('begin', 0, 0), ('begin', 2, 1), ('hear', 3, 0, 1), ('hear', 3, 1, 0), ('hearer', 5, 1, 2, 'newest'),
          ('hear', 4, 0, 0))
LOG = (HEAD,) + EVENTS
# Values that are no logs.
NO_LOGS = (
    HEAD, EVENTS, list(LOG), [HEAD], ('live',), (BOOK,), ('live', BOOK, EVENTS[0]), (HEAD, EVENTS), (HEAD, HEAD),
    (list(HEAD),), (('live', BOOK, BOOK),), (('live',),), (('Live', BOOK),), ((b'live', BOOK),), ((0, BOOK),),
    (('live', list(BOOK)),), (('live', BOOK[:2]),), (('live', book_with(2, 2, 0)),), (('live', book_with(0, 0, True)),),
    ((BOOK, 'live'),), (HEAD, list(EVENTS[0])), (HEAD, ('begin', 0)), (HEAD, ('begin', 0, True)), (HEAD, None),
    (HEAD, EVENTS[0], ('hearer', 5, 1, 0, 'newest')), (HEAD, 'begin 0 0'), (HEAD, ()), (HEAD, EVENTS[0], HEAD),
    (EVENTS[0], HEAD), nested(30), ([], BOOK), (['live', BOOK],), (((), BOOK),), (('live', None),), ((),), ((HEAD,),),
    LiveHearer(BOOK), (('live', LiveHearer(BOOK)),), (HEAD, LiveHearer(BOOK)), (LiveHearer(BOOK),))


class TestLogs(LiveChecks, unittest.TestCase):

    def test_logs(self):
        for log in (LOG, (HEAD,), LOG[:3], (('live', book(n=1)),) + EVENTS, behind(BOOK, *EVENTS).log()):
            self.assertIs(is_log(log), True)
        self.assertIs(is_log(thing=LOG), True)

    def test_possible_or_not(self):
        self.assertIs(is_log((HEAD, ('hear', 0, 9, 9), ('begin', 0, 99))), True)
        self.assertIs(is_log((HEAD,) + (('begin', 0, 0),) * 100), True)
        self.assertIs(is_log((HEAD, ('hearer',) + BOOK[2])), True)

    def test_no_logs(self):
        for thing in NO_BOOKS + NO_LOGS:
            self.assertIs(is_log(thing), False, thing)

    def test_replayed(self):
        live = behind(BOOK, *EVENTS)
        for log in (live.log(), LOG):
            other = replayed(log)
            self.assertIs(type(other), LiveHearer)
            self.assertEqual(snapshot(other), snapshot(live))
            self.assertEqual(other.tally(), (0, 0))
            self.assertIs(other == live, True)
        self.assertEqual(replayed(log=LOG[:1]).log(), (HEAD,))
        self.assertEqual(len(replayed((HEAD,))), 0)

    def test_replayed_can_be_undone(self):
        other = replayed(LOG)
        for event in reversed(EVENTS):
            self.assertEqual(other.undo(), event)
        self.nothing_to_undo(other.undo)
        self.assertEqual(other.tally(), (7, 7))
        self.assertEqual(snapshot(other), snapshot(LiveHearer(BOOK)))

    def test_one_does_not_change_the_other(self):
        live = behind(BOOK, *EVENTS)
        other = replayed(live.log())
        before, tally = snapshot(live), live.tally()
        other += ('begin', 4, 2)
        for _ in range(3):
            other.undo()
        self.assertEqual((snapshot(live), live.tally()), (before, tally))
        before = snapshot(other)
        live.set_hearer(1, 1, 1, 'slowest')
        self.assertEqual(snapshot(other), before)

    def test_not_possible(self):
        self.invalid_event(('begin', 0, 4), 'number', replayed, (HEAD, ('begin', 0, 4)))
        events = EVENTS[:4] + (('hear', 3, 1, 0), ('hear', 3, 9, 9))
        held = self.invalid_event(events[4], 'copy', replayed, (HEAD,) + events)
        self.assertIs(held.event, events[4])
        self.invalid_event(('hearer',) + BOOK[2], 'same', replayed, (HEAD, ('hearer',) + BOOK[2]))
        self.invalid_event(EVENTS[3], 'span', replayed, (('live', book(d=2)),) + EVENTS[:2] + EVENTS[3:])

    def test_most(self):
        events = tuple(('begin', 2 * k, k % 4) for k in range(41))
        self.assertEqual(len(replayed((HEAD,) + events[:40])), 40)
        self.invalid_event(events[40], 'full', replayed, (HEAD,) + events)
        other = replayed((HEAD,) + events[:40])
        self.invalid_event(events[40], 'full', other.go, events[40])

    def test_form_comes_first(self):
        self.not_usable('log', replayed, (HEAD, ('begin', 0, 4), None))

    def test_not_usable(self):
        for thing in NO_BOOKS + NO_LOGS:
            self.not_usable('log', replayed, thing)

    def test_beyond_all_limits(self):
        huge = 10 ** 59
        one = ((huge, huge + 5, 60, huge, huge, huge), (huge, huge), (huge, huge, huge, 'eldest'))
        log = (('live', one), ('begin', -huge, huge - 1), ('begin', 0, 0), ('hear', huge, 1, 59))
        self.assertEqual(replayed(log).log(), log)
        self.assertEqual(replayed(log).open_now, ((0, huge, huge, (None,) * 59 + (1,)),))


if __name__ == '__main__':
    unittest.main()
