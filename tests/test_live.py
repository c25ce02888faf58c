"""Live hearers: which events are possible, their answers, and what is so behind them."""

import unittest

from pieceswindow.kinds import is_number
from pieceswindow.live import LiveHearer
from tests.models import Draws, Model, any_book
from tests.samples import BOOK, NO_BOOKS, NO_INTEGERS, NO_NUMBERS, ErrorChecks, book_with


def book(n=2, copies=1, numbers=4, pause=None, d=1, late=3, wait=4, memory=1, room=2, drop='eldest', a=2, b=3):
    return ((a, b, n, copies, numbers, pause), (d, late), (wait, memory, room, drop))


def behind(one, *events):
    """A live hearer of a book behind these events."""
    live = LiveHearer(one)
    for event in events:
        live.go(event)
    return live


def snapshot(live):
    """All that a live hearer tells, but for its tally."""
    spans = [live.heard_between(text) for text in range(len(live.run_now[0]))]
    copies = [live[text] for text in range(len(live.run_now[0]))]
    return (live.book_now, live.run_now, live.open_now, live.remembered_now, live.showings_now, live.missed_now,
            live.harms_now, live.next_begins(), spans, live.table(), live.log(), copies, len(live), list(live),
            str(live))


class LiveChecks(ErrorChecks):

    def told(self, live, model):
        """Checks that a live hearer tells what the model does."""
        self.assertEqual(live.book_now, (model.sender, model.road, model.hearer))
        self.assertEqual(live.run_now, (tuple(model.begins), tuple(model.arrivals)))
        self.assertEqual(live.open_now, model.open_rows())
        self.assertEqual(live.remembered_now, model.remembered_pairs())
        self.assertEqual(live.showings_now, tuple(model.showings))
        self.assertEqual(live.missed_now, model.missed())
        self.assertEqual(live.harms_now, model.harms())
        self.assertEqual(live.log(), (('live', model.book),) + tuple(model.events))
        for text in range(len(model.begins)):
            self.assertEqual(live[text], model.copies(text))

    def barred(self, live, event, reason):
        """Checks by all ways that an event is not possible, and that nothing changes then."""
        before, tally = snapshot(live), live.tally()
        self.assertEqual(live.barred(event), reason)
        self.assertIs(self.invalid_event(event, reason, live.go, event).event, event)
        self.assertIs(self.invalid_event(event, reason, live.tried, event).event, event)
        self.assertIs(self.invalid_event(event, reason, live.do_all, event).event, event)
        self.assertIs(self.invalid_event(event, reason, live.do_all, event, keep=True).event, event)
        self.assertIs(self.invalid_event(event, reason, self.add, live, event).event, event)
        apply = {'begin': live.begin, 'hear': live.hear, 'hearer': live.set_hearer}
        many = 4
        if isinstance(event, tuple) and event and isinstance(event[0], str) and event[0] in apply:
            if len(event) == {'begin': 3, 'hear': 4, 'hearer': 5}[event[0]]:
                self.invalid_event(event, reason, apply[event[0]], *event[1:])
                many = 5
        self.assertEqual(snapshot(live), before)
        self.assertEqual(live.tally(), (tally[0] + many, tally[1] + many))

    def add(self, live, event):
        live += event

    def possible(self, live, event):
        self.assertIs(live.barred(event), None, event)
        self.assertEqual(len(live.tried(event)), 1)


class TestExamples(LiveChecks, unittest.TestCase):

    def test_examples(self):
        live = LiveHearer(BOOK)
        found = [live.begin(0, 0), live.begin(2, 1), live.begin(4, 2), live.hear(4, 1, 0), live.hear(4, 0, 0)]
        self.assertEqual(found, [0, 1, 2, ('opens', None, False), ('opens', None, False)])
        self.assertEqual(live.hear(5, 2, 0), ('opens', 1, False))
        self.assertEqual([live.hear(6, 1, 1), live.missed_now], [('opens', 0, False), (1,)])
        found = [live.hear(7, 2, 1), live.showings_now, live.open_now, live.remembered_now]
        self.assertEqual(found, [('comes', None, True), ((7, 2, (2, 2)),), ((1, 6, 6, (None, 1)),), ((2, 7),)])
        found = [live.next_begins(), live.heard_between(0), live.table(), live.barred(('hear', 7, 2, 1))]
        self.assertEqual(found, [((3, 6, 7),), None, ['  1      6      6 -,1'], 'copy'])
        self.assertEqual([live.undo(), live.heard_between(2)], [('hear', 7, 2, 1), (6, 8)])
        found = [live.set_hearer(4, 1, 1, 'newest'), live.tried(('hear', 7, 2, 1), ('begin', 6, 3)), len(live)]
        self.assertEqual(found, [(1,), (('comes', None, True), 3), 8])

    def test_at_first(self):
        live = LiveHearer(book=BOOK)
        self.assertEqual((live.book_now, live.run_now), (BOOK, ((), ())))
        for thing in (live.open_now, live.remembered_now, live.showings_now, live.missed_now, live.harms_now,
                      live.next_begins(), live.tried()):
            self.assertEqual(thing, ())
        self.assertEqual((live.table(), live.log(), len(live), list(live)), ([], (('live', BOOK),), 0, []))
        self.assertEqual((str(live), live.tally(), LiveHearer.MOST, live.MOST), ('-', (0, 0), 40, 40))

    def test_errors_of_the_checker(self):
        for thing in NO_BOOKS:
            self.invalid_paper('shape', -1, LiveHearer, thing)
        self.invalid_paper('sender', 1, LiveHearer, book_with(0, 1, 1))
        self.invalid_paper('road', 0, LiveHearer, book_with(1, 0, True))
        self.invalid_paper('hearer', 3, LiveHearer, book_with(2, 3, 'late'))
        self.invalid_paper('shape', -1, LiveHearer, list(BOOK))

    def test_by_name(self):
        live = LiveHearer(BOOK)
        self.assertEqual(live.begin(number=1, moment=-3), 0)
        self.assertEqual(live.hear(part=1, text=0, moment=-2), ('opens', None, False))
        self.assertEqual(live.set_hearer(drop='newest', room=1, memory=2, wait=3), ())
        self.assertEqual(live.go(event=('begin', 0, 2)), 1)
        self.assertEqual(live.barred(event=('begin', 0, 2)), 'pace')
        self.assertEqual(live.heard_between(text=1), (1, 4))
        events = (('begin', -3, 1), ('hear', -2, 0, 1), ('hearer', 3, 2, 1, 'newest'), ('begin', 0, 2))
        self.assertEqual(live.log(), (('live', BOOK),) + events)

    def test_results_are_tuples_of_plain_values(self):
        live = behind(BOOK, ('begin', 0, 0), ('hear', 1, 0, 1), ('begin', 2, 1), ('hear', 3, 1, 0), ('hear', 3, 1, 1))
        for thing in (live.book_now, live.run_now, live.run_now[0], live.run_now[1], live.open_now, live.open_now[0],
                      live.open_now[0][3], live.remembered_now, live.showings_now, live.showings_now[0],
                      live.missed_now, live.harms_now, live.next_begins(), live.heard_between(0), live.log(), live[0],
                      live.tally(), live.tried(), live.set_hearer(4, 1, 1, 'eldest'), live.undo()):
            self.assertIs(type(thing), tuple)
        self.assertIs(type(live.table()), list)


class TestReasons(LiveChecks, unittest.TestCase):

    def test_shape(self):
        live = behind(BOOK, ('begin', 0, 0))
        for thing in NO_BOOKS + (('begin', 0), ['begin', 2, 1], ('begin', 2, 1, 0), ('begin', True, 1), 'begin 2 1',
                                 ('begin', 2, True), ('begin', 2, -1), ('begin', None, 1), ('hear', 1, 0, -1),
                                 ('hear', 1, True, 0), ('hear', 1, 0, False), ('hear', '1', 0, 0), ('hear', 1, 0),
                                 ('hearer', 4, 1, 0, 'eldest'), ('hearer', 4, 1, 2, 'late'), ('hearer', 4, 1, 2),
                                 ('hearer', -1, 1, 2, 'eldest'), ('hearer', 4, 1, 2, ['eldest']), ('undo',), live):
            self.barred(live, thing, 'shape')

    def test_shape_of_any_values(self):
        live = behind(BOOK, ('begin', 0, 0))
        for thing in NO_INTEGERS:
            self.barred(live, ('begin', thing, 1), 'shape')
            self.barred(live, ('hear', thing, 0, 0), 'shape')
        for thing in NO_NUMBERS:
            for event in (('begin', 2, thing), ('hear', 1, thing, 0), ('hear', 1, 0, thing), ('hearer', 4, 1, 0, thing),
                          ('hearer', thing, 1, 2, 'eldest'), ('hearer', 4, thing, 2, 'eldest'),
                          ('hearer', 4, 1, thing, 'eldest')):
                self.barred(live, event, 'shape')

    def test_fields_are_the_very_objects(self):
        live = LiveHearer(BOOK)
        things = ([1], [2], ['x'], [()])
        held = self.invalid_event(('hearer',) + things, 'shape', live.set_hearer, *things)
        for k in range(4):
            self.assertIs(held.event[k + 1], things[k])
        held = self.invalid_event(('begin', things[0], things[1]), 'shape', live.begin, things[0], things[1])
        self.assertIs(held.event[1], things[0])
        self.assertIs(type(held.event), tuple)

    def test_number(self):
        self.barred(LiveHearer(BOOK), ('begin', 0, 4), 'number')
        self.possible(LiveHearer(BOOK), ('begin', 0, 3))
        live = behind(BOOK, ('begin', 0, 3))
        self.barred(live, ('begin', 2, 4), 'number')
        self.possible(live, ('begin', 2, 0))
        self.barred(LiveHearer(book(numbers=1)), ('begin', 0, 1), 'number')

    def test_first_begins(self):
        for moment in (0, -10000, 10000, -10 ** 59, 10 ** 59):
            for number in range(4):
                self.possible(LiveHearer(BOOK), ('begin', moment, number))

    def test_pace(self):
        live = behind(BOOK, ('begin', 0, 1))
        for moment in (2, 3):
            self.possible(live, ('begin', moment, 2))
            for number in (0, 1, 3):
                self.barred(live, ('begin', moment, number), 'pace')
        for moment in (-2, -1, 0, 1, 4, 100):
            for number in range(4):
                self.barred(live, ('begin', moment, number), 'pace')

    def test_pace_from_the_last_number(self):
        live = behind(BOOK, ('begin', -4, 3))
        self.possible(live, ('begin', -2, 0))
        self.possible(live, ('begin', -1, 0))
        for event in (('begin', -2, 3), ('begin', -1, 1), ('begin', -3, 0), ('begin', 0, 0)):
            self.barred(live, event, 'pace')
        live = behind(book(numbers=1), ('begin', 0, 0))
        self.possible(live, ('begin', 3, 0))
        self.barred(live, ('begin', 4, 0), 'pace')

    def stops(self, pause, number, let):
        """Checks the moments and numbers with which, behind a text of this number, one can begin."""
        live = behind(book(pause=pause), ('begin', 10, number))
        for gap in range(-2, 9):
            for other in range(4):
                if (gap, other) in let:
                    self.possible(live, ('begin', 10 + gap, other))
                else:
                    self.barred(live, ('begin', 10 + gap, other), 'pace')

    def test_stops(self):
        # The greatest pace is 3: pause one less, just at it, one more, and beyond.
        self.stops(2, 1, [(2, 2), (3, 2)] + [(gap, 0) for gap in range(2, 9)])
        self.stops(3, 1, [(2, 2), (3, 2)] + [(gap, 0) for gap in range(3, 9)])
        self.stops(4, 1, [(2, 2), (3, 2)] + [(gap, 0) for gap in range(4, 9)])
        self.stops(6, 1, [(2, 2), (3, 2)] + [(gap, 0) for gap in range(6, 9)])
        self.stops(6, 3, [(2, 0), (3, 0)] + [(gap, 0) for gap in range(6, 9)])
        self.stops(3, 3, [(gap, 0) for gap in range(2, 9)])
        self.stops(3, 0, [(2, 1), (3, 1)] + [(gap, 0) for gap in range(3, 9)])
        self.stops(None, 3, [(2, 0), (3, 0)])

    def test_far_stop(self):
        live = behind(book(pause=5), ('begin', 0, 2))
        self.assertEqual(live.begin(10 ** 59, 0), 1)
        self.barred(live, ('begin', 10 ** 59 + 4, 0), 'pace')
        self.possible(live, ('begin', 2 * 10 ** 59, 0))
        self.possible(live, ('begin', 10 ** 59 + 2, 1))

    def test_text(self):
        self.barred(LiveHearer(BOOK), ('hear', 0, 0, 0), 'text')
        live = behind(BOOK, ('begin', 0, 0), ('begin', 2, 1))
        self.barred(live, ('hear', 3, 2, 0), 'text')
        self.possible(live, ('hear', 3, 1, 0))

    def test_part(self):
        live = behind(BOOK, ('begin', 0, 0))
        self.possible(live, ('hear', 1, 0, 1))
        self.barred(live, ('hear', 1, 0, 2), 'part')
        self.barred(behind(book(n=1), ('begin', 0, 0)), ('hear', 1, 0, 1), 'part')

    def test_span(self):
        live = behind(BOOK, ('begin', -7, 0), ('begin', -5, 1))
        for text, begin in ((0, -7), (1, -5)):
            self.barred(live, ('hear', begin, text, 0), 'span')
            self.possible(live, ('hear', begin + 1, text, 0))
            self.possible(live, ('hear', begin + 4, text, 0))
            self.barred(live, ('hear', begin + 5, text, 0), 'span')
        live = behind(book(d=0, late=0), ('begin', 0, 0))
        self.barred(live, ('hear', -1, 0, 0), 'span')
        self.possible(live, ('hear', 0, 0, 0))
        self.barred(live, ('hear', 1, 0, 0), 'span')

    def test_order(self):
        live = behind(BOOK, ('begin', 0, 0), ('begin', 2, 1), ('hear', 4, 1, 0))
        self.barred(live, ('hear', 3, 0, 0), 'order')
        self.possible(live, ('hear', 4, 0, 0))
        self.barred(live, ('hear', 3, 1, 1), 'order')
        # Texts may begin ahead of what was heard.
        live = behind(BOOK, ('begin', 0, 0), ('hear', 4, 0, 0), ('begin', 2, 1))
        self.barred(live, ('hear', 3, 1, 1), 'order')
        self.possible(live, ('hear', 4, 1, 1))

    def test_copy(self):
        live = behind(BOOK, ('begin', 0, 0), ('hear', 1, 0, 1))
        self.barred(live, ('hear', 1, 0, 1), 'copy')
        self.possible(live, ('hear', 1, 0, 0))
        live = behind(book(copies=3), ('begin', 0, 0), ('begin', 2, 1), *[('hear', 3, 0, 1)] * 2)
        self.possible(live, ('hear', 3, 0, 1))
        live += ('hear', 3, 0, 1)
        self.barred(live, ('hear', 4, 0, 1), 'copy')
        self.possible(live, ('hear', 4, 0, 0))
        self.possible(live, ('hear', 4, 1, 1))

    def test_same(self):
        live = LiveHearer(BOOK)
        self.barred(live, ('hearer', 4, 1, 2, 'eldest'), 'same')
        for hearer in ((5, 1, 2, 'eldest'), (4, 0, 2, 'eldest'), (4, 1, 3, 'eldest'), (4, 1, 2, 'slowest')):
            self.possible(live, ('hearer',) + hearer)
        live.set_hearer(5, 1, 2, 'eldest')
        self.barred(live, ('hearer', 5, 1, 2, 'eldest'), 'same')
        self.assertEqual(live.set_hearer(4, 1, 2, 'eldest'), ())
        self.assertEqual(live.book_now, BOOK)

    def test_full(self):
        live = behind(BOOK, *[('begin', 2 * k, k % 4) for k in range(39)])
        self.possible(live, ('begin', 78, 3))
        live += ('begin', 78, 3)
        self.assertEqual(len(live), 40)
        for event in (('begin', 80, 0), ('begin', 0, 9), ('hear', 80, 39, 0), ('hear', 0, 99, 99),
                      ('hearer', 4, 1, 2, 'eldest'), ('hearer', 4, 1, 2, 'newest')):
            self.barred(live, event, 'full')
        self.barred(live, ('begin', 80, -1), 'shape')
        self.assertEqual(live.heard_between(39), (79, 82))
        self.assertEqual(live.next_begins(), ((0, 80, 81),))
        self.assertEqual(live.undo(), ('begin', 78, 3))
        self.barred(live, ('begin', 80, 3), 'pace')
        self.possible(live, ('begin', 78, 3))

    def test_most_of_a_derived_class(self):
        class Short(LiveHearer):
            MOST = 2

        live = Short(BOOK)
        self.assertEqual(live.do_all(('begin', 0, 0), ('begin', 2, 1)), 2)
        self.invalid_event(('begin', 4, 2), 'full', live.begin, 4, 2)

    def test_full_within_others(self):
        events = [('begin', 2 * k, k % 4) for k in range(41)]
        live = LiveHearer(BOOK)
        self.invalid_event(events[40], 'full', live.tried, *events)
        self.invalid_event(events[40], 'full', live.do_all, *events)
        self.assertEqual(len(live), 0)
        self.assertEqual(live.tried(*events[:40]), tuple(range(40)))
        self.invalid_event(events[40], 'full', live.do_all, *events, keep=True)
        self.assertEqual(len(live), 40)
        live.undo()
        self.assertEqual(live.do_all(events[39]), 1)
        self.invalid_event(events[40], 'full', live.go, events[40])

    def test_the_first_of_two_reasons(self):
        live = behind(BOOK, ('begin', 0, 1), ('hear', 3, 0, 1))
        self.barred(live, ('begin', 99, 4), 'number')
        self.barred(live, ('hear', 99, 1, 2), 'text')
        self.barred(live, ('hear', 99, 0, 2), 'part')
        self.barred(live, ('hear', 0, 0, 1), 'span')
        self.barred(live, ('hear', 2, 0, 1), 'order')
        self.barred(live, ('hear', 3, 0, 1), 'copy')
        self.barred(live, ('hear', None, 9, 9), 'shape')
        self.barred(live, ('begin', '0', 9), 'shape')


class TestWalks(LiveChecks, unittest.TestCase):
    """Many events in a row, beside the document's words."""

    def any_event(self, draws, model):
        """An event that may be possible."""
        kind = draws.below(12)
        if kind < 3:
            moment, number = model.begins[-1] if model.begins else (draws.between(-9, 9), 0)
            number = draws.one((number + 1, number + 1, 0)) % model.sender[4]
            return ('begin', moment + draws.between(1, 6), number)
        if kind < 11 and model.begins:
            text = len(model.begins) - 1 - draws.below(min(4, len(model.begins)))
            low = model.begins[text][0] + model.road[0]
            last = model.arrivals[-1][0] if model.arrivals else low
            moment = min(max(last, low) + draws.below(3), low + model.road[1] + draws.below(2))
            return ('hear', moment, text, draws.below(model.sender[2] + draws.below(2)))
        rule = draws.one(('eldest', 'newest', 'slowest'))
        return ('hearer', draws.below(7), draws.below(5), draws.between(1, 3), rule)

    def test_walks(self):
        draws = Draws(1)
        words = {}
        for _ in range(600):
            model = Model(any_book(draws))
            live = LiveHearer(model.book)
            while len(model.events) < 40 and draws.below(60):
                event = self.any_event(draws, model)
                reason = model.reason(event)
                words[reason] = words.get(reason, 0) + 1
                self.assertEqual(live.barred(event), reason)
                if reason is None:
                    model = Model(model.book, model.events + [event])
                    answer = live.go(event)
                    self.assertEqual(answer, model.answers[-1])
                    word = answer if is_number(answer) or len(answer) != 3 else answer[0]
                    words[word] = words.get(word, 0) + 1
                    self.told(live, model)
                else:
                    self.invalid_event(event, reason, live.go, event)
            for harm in model.harms():
                words[harm] = words.get(harm, 0) + 1
        for word in ('swallowed', 'refused', 'opens', 'comes', 'again', 'joined', 'twice', 'missed', 'pace', 'part',
                     'span', 'order', 'copy', 'same'):
            self.assertGreater(words.get(word, 0), 5, word)

    def test_undo_goes_all_the_way_back(self):
        draws = Draws(2)
        for _ in range(30):
            model = Model(any_book(draws))
            live = LiveHearer(model.book)
            snapshots = []
            while len(live) < 30:
                event = self.any_event(draws, model)
                if model.reason(event) is None:
                    snapshots.append(snapshot(live))
                    model = Model(model.book, model.events + [event])
                    live += event
            while snapshots:
                self.assertEqual(live.undo(), model.events[len(snapshots) - 1])
                self.assertEqual(snapshot(live), snapshots.pop())
            self.nothing_to_undo(live.undo)

    def test_answers_of_events_tried_at_once(self):
        draws = Draws(3)
        for _ in range(30):
            model = Model(any_book(draws))
            for _ in range(100):
                event = self.any_event(draws, model)
                if model.reason(event) is None:
                    model = Model(model.book, model.events + [event])
            live = LiveHearer(model.book)
            before = snapshot(live)
            self.assertEqual(live.tried(*model.events), tuple(model.answers))
            self.assertEqual(snapshot(live), before)
            self.assertEqual(live.do_all(*model.events), len(model.events))
            self.told(live, model)


if __name__ == '__main__':
    unittest.main()
