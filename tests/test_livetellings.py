"""What live hearers tell, and how events are tried, taken back and counted."""

import unittest

from pieceswindow.bookclasses import Book
from pieceswindow.live import LiveHearer
from pieceswindow.replaying import replayed
from tests.samples import BOOK, NO_BOOKS, NO_NUMBERS
from tests.test_live import LiveChecks, behind, book, snapshot

FIRST = (('begin', 0, 0), ('begin', 2, 1), ('hear', 3, 0, 1), ('hear', 3, 1, 0), ('hearer', 5, 1, 2, 'newest'))
NO_TEXTS = tuple(thing for thing in NO_BOOKS if thing != 0 or isinstance(thing, bool)) + (2, 3, 10 ** 59)


class TestCounting(LiveChecks, unittest.TestCase):

    def counted(self, live, many):
        self.assertEqual(live.tally(), (many, many))

    def test_each_operation_counts_once(self):
        live = LiveHearer(BOOK)
        calls = (lambda: live.begin(0, 0), lambda: live.hear(1, 0, 0), lambda: live.set_hearer(0, 0, 1, 'newest'),
                 lambda: live.go(('begin', 2, 1)), lambda: live.do_all(('begin', 4, 2), ('begin', 6, 3)),
                 lambda: live.do_all(), live.undo, lambda: live.do_all(('begin', 6, 3), keep=True))
        for many, call in enumerate(calls):
            self.counted(live, many)
            call()
        self.counted(live, len(calls))
        live += ('begin', 8, 0)
        self.counted(live, len(calls) + 1)

    def test_errors_count(self):
        live = LiveHearer(BOOK)
        self.nothing_to_undo(live.undo)
        self.counted(live, 1)
        self.invalid_event(('begin', 0, 4), 'number', live.begin, 0, 4)
        self.invalid_event(('hear', 0, 0, 0), 'text', live.hear, 0, 0, 0)
        self.invalid_event(('hearer', 4, 1, 2, 'eldest'), 'same', live.set_hearer, 4, 1, 2, 'eldest')
        self.counted(live, 4)
        self.invalid_event(None, 'shape', live.go, None)
        self.invalid_event(None, 'shape', live.do_all, None)
        self.invalid_event(None, 'shape', live.do_all, None, keep=True)
        self.not_usable('keep', live.do_all, keep=1)
        self.counted(live, 8)
        self.invalid_event([], 'shape', self.add, live, [])
        self.counted(live, 9)

    def test_what_counts_nothing(self):
        live = behind(BOOK, *FIRST)
        before = live.tally()
        snapshot(live)
        for event in (('begin', 4, 2), None):
            live.barred(event)
        live.tried(('begin', 4, 2))
        live.tried()
        self.invalid_event(None, 'shape', live.tried, None)
        self.not_usable('text', live.heard_between, 9)
        self.not_usable('text', lambda: live[9])
        self.assertEqual((live == live, 1 in live, live.tally()), (True, True, before))

    def test_tally_is_not_taken_back(self):
        live = behind(BOOK, *FIRST)
        live.undo()
        self.counted(live, 6)


class TestTrying(LiveChecks, unittest.TestCase):

    def test_barred(self):
        live = behind(BOOK, *FIRST)
        before = snapshot(live)
        self.assertIs(live.barred(('begin', 4, 2)), None)
        self.assertEqual(live.barred(('begin', 4, 1)), 'pace')
        self.assertEqual(live.barred('begin 4 2'), 'shape')
        self.assertEqual(snapshot(live), before)

    def test_tried(self):
        live = behind(BOOK, *FIRST)
        before = snapshot(live)
        events = (('begin', 4, 2), ('hear', 4, 0, 0), ('hear', 5, 2, 0), ('hearer', 5, 1, 1, 'slowest'))
        answers = (2, ('comes', None, True), ('opens', None, False), (1,))
        self.assertEqual(live.tried(*events), answers)
        self.assertEqual(snapshot(live), before)
        self.assertEqual(tuple(live.go(event) for event in events), answers)

    def test_tried_raises_the_first(self):
        live = behind(BOOK, *FIRST)
        before = snapshot(live)
        self.invalid_event(('begin', 4, 3), 'pace', live.tried, ('begin', 4, 2), ('begin', 4, 3), None)
        self.invalid_event(None, 'shape', live.tried, None, ('begin', 4, 3))
        self.assertEqual(snapshot(live), before)

    def test_tried_goes_on_behind_each(self):
        live = LiveHearer(BOOK)
        self.invalid_event(('begin', 0, 0), 'pace', live.tried, ('begin', 0, 0), ('begin', 0, 0))
        self.assertEqual(live.tried(('begin', 0, 0), ('begin', 3, 1)), (0, 1))

    def test_undo(self):
        live = behind(BOOK, *FIRST)
        for event in reversed(FIRST):
            self.assertEqual(live.undo(), event)
        self.assertEqual(snapshot(live), snapshot(LiveHearer(BOOK)))
        self.nothing_to_undo(live.undo)
        self.nothing_to_undo(live.undo)
        self.assertEqual(live.begin(7, 3), 0)
        self.assertEqual(live.undo(), ('begin', 7, 3))

    def test_undo_of_what_dropped_and_forgot(self):
        live = behind(book(wait=1, memory=0, room=1, late=9), ('begin', 0, 0), ('begin', 2, 1), ('hear', 3, 0, 0))
        before = snapshot(live)
        for event in (('hear', 4, 1, 0), ('hear', 5, 1, 0), ('hear', 4, 0, 1), ('hearer', 0, 0, 1, 'newest')):
            live += event
            self.assertEqual(live.undo(), event)
            self.assertEqual(snapshot(live), before)

    def test_do_all(self):
        live = LiveHearer(BOOK)
        self.assertEqual(live.do_all(*FIRST), 5)
        self.assertEqual(snapshot(live), snapshot(behind(BOOK, *FIRST)))
        self.assertEqual(live.do_all(('begin', 4, 2), keep=False), 1)
        self.assertEqual(live.do_all(('begin', 6, 3), keep=True), 1)
        self.assertEqual([live.do_all(), live.do_all(keep=True), live.do_all(keep=False)], [0, 0, 0])
        self.assertEqual(len(live), 7)

    def test_do_all_that_raises(self):
        for more, kept in (({}, 0), ({'keep': False}, 0), ({'keep': True}, 2)):
            live = behind(BOOK, *FIRST[:2])
            events = (('hear', 3, 0, 1), ('hear', 3, 1, 0), ('hear', 3, 1, 0), ('hear', 3, 1, 1))
            self.invalid_event(events[2], 'copy', live.do_all, *events, **more)
            self.assertEqual(snapshot(live), snapshot(behind(BOOK, *FIRST[:2], *events[:kept])))
            self.invalid_event(7, 'shape', live.do_all, 7, *events, **more)
            self.assertEqual(len(live), 2 + kept)

    def test_keep(self):
        live = behind(BOOK, *FIRST)
        before = snapshot(live)
        for thing in NO_BOOKS + (0, 1, BOOK):
            if not isinstance(thing, bool):
                self.not_usable('keep', live.do_all, keep=thing)
                self.not_usable('keep', live.do_all, ('begin', 4, 2), keep=thing)
                self.not_usable('keep', live.do_all, None, keep=thing)
        self.assertEqual(snapshot(live), before)

    def test_in_place(self):
        live = same = LiveHearer(BOOK)
        live += ('begin', 0, 0)
        self.assertIs(live, same)
        self.assertEqual(list(live), [('begin', 0, 0)])
        self.invalid_event(('begin', 0, 0), 'pace', self.add, live, ('begin', 0, 0))
        self.assertEqual(len(same), 1)


class TestNext(LiveChecks, unittest.TestCase):

    def begins(self, wanted, number=1, **more):
        """Checks next_begins of a text at 10, and that just these moments and numbers are possible."""
        live = behind(book(**more), ('begin', 10, number))
        self.assertEqual(live.next_begins(), wanted)
        for moment in range(8, 30):
            for other in range(live.book_now[0][4]):
                told = any(other == row[0] and row[1] <= moment and (row[2] is None or moment <= row[2])
                           for row in wanted)
                self.assertEqual(live.barred(('begin', moment, other)), None if told else 'pace')

    def test_without_pause(self):
        self.assertEqual(LiveHearer(BOOK).next_begins(), ())
        self.assertEqual(LiveHearer(book(pause=5)).next_begins(), ())
        self.begins(((2, 12, 13),))
        self.begins(((0, 12, 13),), 3)
        self.begins(((1, 12, 12),), 0, b=2)

    def test_pause(self):
        # The greatest pace is 3; behind number 3 comes 0, too.
        self.begins(((0, 12, None), (2, 12, 13)), pause=2)
        self.begins(((0, 13, None), (2, 12, 13)), pause=3)
        self.begins(((0, 14, None), (2, 12, 13)), pause=4)
        self.begins(((0, 15, None), (2, 12, 13)), pause=5)
        self.begins(((0, 12, None),), 3, pause=2)
        self.begins(((0, 12, None),), 3, pause=3)
        self.begins(((0, 12, None),), 3, pause=4)
        self.begins(((0, 12, 13), (0, 15, None)), 3, pause=5)
        self.begins(((0, 12, 13), (0, 17, None)), 3, pause=7)

    def test_one_number(self):
        self.begins(((0, 12, 13),), 0, numbers=1)
        self.begins(((0, 12, None),), 0, numbers=1, pause=4)
        self.begins(((0, 12, 13), (0, 15, None)), 0, numbers=1, pause=5)

    def test_behind_several(self):
        live = behind(book(pause=9), ('begin', -20, 2), ('begin', -18, 3), ('begin', -3, 0))
        self.assertEqual(live.next_begins(), ((0, 6, None), (1, -1, 0)))
        live.undo()
        self.assertEqual(live.next_begins(), ((0, -16, -15), (0, -9, None)))

    def test_heard_between(self):
        live = behind(book(copies=2), ('begin', -9, 0), ('begin', -7, 1))
        self.assertEqual([live.heard_between(0), live.heard_between(1)], [(-8, -5), (-6, -3)])
        live += ('hear', -7, 0, 1)
        self.assertEqual([live.heard_between(0), live.heard_between(1)], [(-7, -5), (-6, -3)])
        live += ('hear', -5, 1, 1)
        self.assertEqual([live.heard_between(0), live.heard_between(1)], [(-5, -5), (-5, -3)])
        live += ('hear', -4, 1, 1)
        self.assertEqual([live.heard_between(0), live.heard_between(1)], [None, (-4, -3)])

    def test_heard_between_with_all_copies(self):
        live = behind(book(copies=2, memory=9), ('begin', 0, 0), *[('hear', 1, 0, part) for part in (0, 1, 0)])
        self.assertEqual(live.heard_between(0), (1, 4))
        live += ('hear', 2, 0, 1)
        self.assertIs(live.heard_between(0), None)
        live.undo()
        self.assertEqual(live.heard_between(0), (1, 4))

    def test_heard_between_of_no_text(self):
        live = behind(BOOK, *FIRST)
        for thing in NO_TEXTS:
            if thing != 1 or isinstance(thing, bool):
                self.not_usable('text', live.heard_between, thing)
        self.not_usable('text', LiveHearer(BOOK).heard_between, 0)

    def test_just_these_moments(self):
        live = behind(book(n=3, copies=1, d=2, late=4), ('begin', 0, 0), ('begin', 3, 1), ('hear', 4, 0, 1))
        for text in (0, 1):
            least, greatest = live.heard_between(text)
            for moment in range(-2, 12):
                reason = live.barred(('hear', moment, text, 0))
                self.assertIs(reason is None, least <= moment <= greatest)


class TestItems(LiveChecks, unittest.TestCase):

    def test_copies(self):
        live = behind(book(n=3, copies=4), ('begin', 0, 0), ('begin', 2, 1), ('hear', 3, 0, 2), ('hear', 3, 0, 2),
                      ('hear', 3, 1, 0), ('hear', 4, 0, 1))
        self.assertEqual([live[0], live[1]], [(0, 1, 2), (1, 0, 0)])

    def test_no_texts(self):
        live = behind(BOOK, *FIRST)
        for thing in NO_BOOKS + (2, 10 ** 59, slice(0, 1)):
            if isinstance(thing, bool) or thing not in (0, 1):
                self.not_usable('text', lambda: live[thing])
        self.not_usable('text', lambda: LiveHearer(BOOK)[0])

    def test_open_numbers(self):
        live = behind(book(copies=4), ('begin', 0, 3), ('begin', 2, 0), ('begin', 4, 1), ('hear', 4, 0, 0),
                      ('hear', 4, 1, 0))
        self.assertEqual([m in live for m in range(-1, 5)], [False, True, False, False, True, False])
        live += ('hear', 5, 1, 1)
        self.assertEqual([m in live for m in range(5)], [False, False, False, True, False])
        for thing in NO_BOOKS + (BOOK, live):
            self.assertIs(thing in live, False)
        live += ('hear', 5, 2, 0)
        self.assertEqual([thing in live for thing in (1, True, '1', (1,), [1])], [True, False, False, False, False])

    def test_length_and_iteration(self):
        live = LiveHearer(BOOK)
        for many, event in enumerate(FIRST):
            self.assertEqual((len(live), list(live)), (many, list(FIRST[:many])))
            live += event
        self.assertEqual([tuple(live), len(live)], [FIRST, 5])
        first, *rest = live
        self.assertEqual((first, tuple(rest)), (FIRST[0], FIRST[1:]))

    def test_iteration_gives_those_of_its_beginning(self):
        live = behind(BOOK, *FIRST[:2])
        given = []
        for event in live:
            given.append(event)
            live += ('begin', 2 * len(live), len(live))
        self.assertEqual(tuple(given), FIRST[:2])
        self.assertEqual(len(live), 4)
        steps = iter(live)
        for _ in range(3):
            live.undo()
        self.assertEqual(list(steps), [('begin', 0, 0), ('begin', 2, 1), ('begin', 4, 2), ('begin', 6, 3)])
        self.assertEqual(list(live), [('begin', 0, 0)])

    def test_equal(self):
        live = behind(BOOK, *FIRST)
        other = LiveHearer(BOOK)
        other.do_all(*FIRST, keep=True)
        self.assertIs(live == other, True)
        self.assertIs(live != other, False)
        self.assertIs(live == replayed(live.log()), True)
        other.undo()
        self.assertIs(live == other, False)
        self.assertIs(live != other, True)
        other += FIRST[-1]
        self.assertIs(other == live, True)
        self.assertIs(LiveHearer(BOOK) == LiveHearer(BOOK), True)
        self.assertIs(LiveHearer(BOOK) == LiveHearer(book(d=0)), False)

    def test_equal_by_the_log_alone(self):
        # All that they have now is equal, but not how it came about.
        back = ('hearer',) + BOOK[2]
        one = behind(BOOK, ('begin', 0, 0), ('hearer', 5, 1, 2, 'eldest'), back)
        other = behind(BOOK, ('begin', 0, 0), ('hearer', 6, 1, 2, 'eldest'), back)
        self.assertEqual((one.book_now, one.run_now), (other.book_now, other.run_now))
        self.assertIs(one == other, False)
        one = behind(BOOK, ('begin', 0, 0), ('hear', 1, 0, 0), ('begin', 2, 1))
        other = behind(BOOK, ('begin', 0, 0), ('begin', 2, 1), ('hear', 1, 0, 0))
        self.assertEqual((one.run_now, one.open_now), (other.run_now, other.open_now))
        self.assertIs(one == other, False)
        other = behind((BOOK[0], BOOK[1], (5, 1, 2, 'eldest')), back)
        one = behind(BOOK)
        self.assertEqual(one.book_now, other.book_now)
        self.assertIs(one == other, False)

    def test_equal_of_derived_classes(self):
        class Own(LiveHearer):
            pass

        self.assertIs(Own(BOOK) == LiveHearer(BOOK), True)
        self.assertIs(LiveHearer(BOOK) == Own(BOOK), True)

    def test_equal_to_other_values(self):
        live = behind(BOOK, *FIRST)
        for thing in NO_BOOKS + (live.log(), BOOK, list(live), str(live), Book(*BOOK), LiveHearer, live.run_now):
            self.assertIs(live == thing, False)
            self.assertIs(live != thing, True)

    def test_str(self):
        self.assertEqual(str(LiveHearer(BOOK)), '-')
        self.assertEqual(str(behind(BOOK, *FIRST)),
                         'begin 0 0 / begin 2 1 / hear 3 0 1 / hear 3 1 0 / hearer 5 1 2 newest')
        self.assertEqual(str(behind(BOOK, ('begin', -10 ** 59, 3))), 'begin -1' + '0' * 59 + ' 3')
        self.assertEqual(str(behind(BOOK, ('hearer', 0, 0, 1, 'slowest'))), 'hearer 0 0 1 slowest')

    def test_str_of_large_moments(self):
        # What was told can be given in again, whatever its size.
        one = book(a=10 ** 60 - 1, b=10 ** 60 - 1)
        live = behind(one, ('begin', 10 ** 60 - 1, 0))
        live.begin(live.next_begins()[0][2], 1)
        self.assertEqual(str(live), 'begin ' + '9' * 60 + ' 0 / begin 1' + '9' * 59 + '8 1')
        self.assertEqual(str(behind(BOOK, ('begin', -10 ** 6000, 0))), 'begin -1' + '0' * 6000 + ' 0')

    def test_log(self):
        live = behind(BOOK, *FIRST)
        self.assertEqual(live.log(), (('live', BOOK),) + FIRST)
        live.undo()
        self.assertEqual(live.log(), (('live', BOOK),) + FIRST[:-1])


class TestTable(LiveChecks, unittest.TestCase):

    def test_rows(self):
        live = behind(book(n=3, copies=5, numbers=2000, late=20, wait=20), ('begin', -9, 9), ('begin', -7, 10),
                      ('begin', -4, 11), ('hear', -5, 0, 1), ('hear', -3, 0, 0), ('hear', -2, 1, 2), ('hear', 0, 0, 1))
        self.assertEqual(live.table(), ['  9     -5      0 0,0,-', ' 10     -2     -2 -,-,1'])

    def test_wide_columns(self):
        live = behind(book(numbers=2000), ('begin', -100000, 999), ('hear', -99999, 0, 0))
        self.assertEqual(live.table(), ['999 -99999 -99999 0,-'])
        live = behind(book(numbers=2000), ('begin', 999999, 1000), ('hear', 1000000, 0, 1))
        self.assertEqual(live.table(), ['1000 1000000 1000000 -,0'])
        live = behind(BOOK, ('begin', -1000001, 3), ('hear', -1000000, 0, 1))
        self.assertEqual(live.table(), ['  3 -1000000 -1000000 -,0'])

    def test_two_texts_in_one(self):
        live = behind(book(n=3, late=20, wait=20, numbers=1), ('begin', 0, 0), ('begin', 2, 0), ('hear', 5, 1, 2),
                      ('hear', 6, 0, 0))
        self.assertEqual(live.table(), ['  0      5      6 0,-,1'])

    def test_order_is_that_of_opening(self):
        live = behind(book(late=20, wait=20), ('begin', 0, 0), ('begin', 2, 1), ('hear', 5, 1, 1), ('hear', 5, 0, 0))
        self.assertEqual([row[:3] for row in live.table()], ['  1', '  0'])

    def test_none(self):
        self.assertEqual(LiveHearer(BOOK).table(), [])
        self.assertEqual(behind(book(n=1), ('begin', 0, 0), ('hear', 1, 0, 0)).table(), [])

    def test_a_changed_list_changes_nothing(self):
        live = behind(BOOK, *FIRST)
        rows = live.table()
        wanted = list(rows)
        rows.append('x')
        rows[0] = 'y'
        self.assertEqual(live.table(), wanted)
        self.assertIsNot(live.table(), live.table())


class TestConsequences(LiveChecks, unittest.TestCase):

    def test_another_does_not_change(self):
        one, other = behind(BOOK, *FIRST), behind(BOOK, *FIRST)
        before = snapshot(other)
        one.undo()
        one += ('begin', 4, 2)
        self.assertEqual(snapshot(other), before)

    def test_told_values_stay(self):
        live = behind(BOOK, *FIRST[:3])
        opened, run, log = live.open_now, live.run_now, live.log()
        live.do_all(FIRST[3], ('hear', 4, 0, 0))
        self.assertEqual((opened, run), (((0, 3, 3, (None, 0)),), (((0, 0), (2, 1)), ((3, 0, 1),))))
        self.assertEqual(log, (('live', BOOK),) + FIRST[:3])

    def test_bools_are_no_numbers(self):
        live = behind(BOOK, *FIRST)
        for thing in NO_NUMBERS:
            self.assertIs(thing in live, False)


if __name__ == '__main__':
    unittest.main()
