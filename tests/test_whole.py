"""What the document promises over the whole program: all ways to tell the same of it, and what follows."""

import unittest
from itertools import product

from pieceswindow.alike import are_alike, same_roads
from pieceswindow.bookchanges import with_mark, with_ways
from pieceswindow.bookclasses import Book
from pieceswindow.bookparts import reach_of
from pieceswindow.bookreadings import book_read
from pieceswindow.booktexts import book_text
from pieceswindow.desk import Desk
from pieceswindow.errors import BookError, InvalidEvent, InvalidPaper, InvalidRow, InvalidText, LiveError, NothingToUndo
from pieceswindow.errors import NotUsable, PaperError, PieceError, Shut, TextError
from pieceswindow.eventreadings import read_event, read_log
from pieceswindow.eventtexts import event_line, log_lines
from pieceswindow.forms import causes_of, crowd_of, harms_that_can, is_harmless
from pieceswindow.harmchecker import lets_harm
from pieceswindow.harmpapers import harm_paper
from pieceswindow.harmruns import cause_run, harm_run
from pieceswindow.harms import causes_in, harms_of, missed_texts, shown_texts
from pieceswindow.hearing import fates_of, open_of, remembered_of, showings_of
from pieceswindow.leasts import greatest_memory, greatest_wait, least_memory, least_numbers, least_pause, least_room
from pieceswindow.leasts import least_wait
from pieceswindow.live import LiveHearer
from pieceswindow.meanings import meanings_of, sure_numbers
from pieceswindow.outlooks import Outlook
from pieceswindow.replaying import replayed
from pieceswindow.runchanges import joined_runs, shifted, without_arrival
from pieceswindow.runchecker import lets_run
from pieceswindow.runclasses import Run
from pieceswindow.settings import harmless_settings, narrowest
from pieceswindow.spanchecker import lets_spans
from pieceswindow.spanpapers import span_paper
from pieceswindow.tellback import spans
from tests.models import Draws, any_book, any_run
from tests.samples import BOOK, HEARER, LONGER, ROAD, SAFE, SENDER
from tests.test_harmruns import HARMS
from tests.test_harms import LONG, PAIRED
from tests.test_runchecker import RUN
from tests.test_tellback import any_heard, any_sender


def events_of(run):
    """The events of a run, each text as late as can be: ahead of its first arrival, and those behind it."""
    begins, arrivals = run
    events, begun = [], 0
    for arrival in arrivals:
        while begun <= arrival[1]:
            events.append(('begin',) + begins[begun])
            begun += 1
        events.append(('hear',) + arrival)
    return events + [('begin',) + each for each in begins[begun:]]


def small_run(draws, book):
    """A run of the book with at most forty events."""
    begins, arrivals = any_run(draws, book, most=5, lost=9)
    return (begins, arrivals[:40 - len(begins)])


def written_fate(fate):
    word, dropped, shows = fate
    return ' '.join([word] + ([] if dropped is None else ['drops', str(dropped)]) + (['shows'] if shows else []))


def listed(values, between=' '):
    return between.join(str(value) for value in values) or '-'


class TestAllWays(unittest.TestCase):

    def together(self, book, run):
        """One run through a live hearer, a desk, a Run and the functions, event by event."""
        live, desk = LiveHearer(book), Desk(book)
        begins, arrivals = (), ()
        for event in events_of(run):
            self.assertEqual(read_event(event_line(event)), event)
            self.assertIs(live.barred(event), None)
            self.assertEqual(desk.say('bars ' + event_line(event)), '-')
            told, answer = live.tried(event)[0], live.go(event)
            self.assertEqual(told, answer)
            row = desk.say(event_line(event))
            if event[0] == 'begin':
                begins = begins + (event[1:],)
                self.assertEqual((answer, row), (len(begins) - 1, str(answer)))
                one = Run(book, begins, arrivals)
            else:
                one = one + event[1:]
                arrivals = arrivals + (event[1:],)
                self.assertEqual((one[len(arrivals) - 1], row), (answer, written_fate(answer)))
            self.same(book, (begins, arrivals), live, desk, one)
        self.undone(book, live, desk, run)

    def same(self, book, run, live, desk, one):
        self.assertEqual((live.run_now, one.run_now), (run, run))
        self.assertEqual(lets_run(book, run), (len(run[0]), len(one)))
        fates = tuple(one[k] for k in range(len(one)))
        self.assertEqual(fates, fates_of(book, run))
        self.assertEqual([live.showings_now, one.showings_now], [showings_of(book, run)] * 2)
        self.assertEqual([live.harms_now, one.harms_now], [harms_of(book, run)] * 2)
        self.assertEqual([live.missed_now, one.missed_now], [missed_texts(book, run)] * 2)
        self.assertEqual((live.open_now, live.remembered_now), (open_of(book, run), remembered_of(book, run)))
        self.assertIs(bool(one), harms_of(book, run) == ())
        self.assertEqual(desk.say('harms'), listed(live.harms_now))
        self.assertEqual(desk.say('missed'), listed(live.missed_now))
        self.assertEqual(desk.say('log'), str(live))
        self.assertEqual(desk.say('open'), listed(live.table(), ' / '))
        self.assertEqual(desk.say('remembered'), listed(f'{m}@{t}' for m, t in live.remembered_now))
        shown = [f"{t} {m} {listed(texts, ',')}" for t, m, texts in live.showings_now]
        self.assertEqual(desk.say('shown'), listed(shown, ' / '))
        for text in range(len(run[0])):
            self.assertEqual(desk.say(f'of {text}'), listed(live[text]))
            many = [sum(a[1:] == (text, part) for a in run[1]) for part in range(book[0][2])]
            self.assertEqual(live[text], tuple(many))

    def undone(self, book, live, desk, run):
        """All events again by their log, and taken back one by one."""
        log = live.log()
        self.assertEqual(replayed(log), live)
        self.assertEqual(read_log(log_lines(log)), log)
        for event in reversed(log[1:]):
            self.assertEqual((live.undo(), desk.say('undo')), (event, event_line(event)))
            self.assertEqual(live.showings_now, showings_of(book, live.run_now))
        self.assertEqual(desk.say('log'), '-')
        self.assertEqual(live.do_all(*log[1:]), len(log) - 1)
        self.assertEqual(live, replayed(log))
        self.assertEqual(fates_of(book, live.run_now), fates_of(book, run))

    def test_runs_of_the_examples(self):
        for book, run in ((BOOK, RUN), (BOOK, PAIRED), (LONG, PAIRED), (SAFE, RUN), (BOOK, ((), ()))):
            self.together(book, run)

    def test_runs_that_have_harms(self):
        for book in (BOOK, LONGER, ((2, 3, 2, 2, 4, None), ROAD, HEARER),
                     ((1, 2, 3, 2, 3, 2), (1, 3), (1, 2, 2, 'slowest'))):
            for harm in harms_that_can(book):
                self.together(book, harm_run(book, harm))
            for cause in causes_of(book):
                self.together(book, cause_run(book, cause))

    def test_any_runs(self):
        draws = Draws(151)
        for _ in range(80):
            book = any_book(draws)
            self.together(book, small_run(draws, book))

    def test_books_by_all_ways(self):
        draws = Draws(152)
        for _ in range(80):
            book = any_book(draws)
            one, desk, outlook = Book(*book), Desk(BOOK), Outlook(book)
            self.assertEqual((one.form, Book.read(str(one)).form, book_read(book_text(book))), (book, book, book))
            self.assertEqual(desk.say(str(one)), 'ok')
            self.assertEqual(desk.say('hearer'), listed(book[2]))
            self.assertEqual(outlook.harms_now, harms_that_can(book))
            changed = outlook.with_hearer(room=7, wait=3)
            self.assertEqual(changed.book_now, one.but(wait=3, room=7).form)
            self.assertIs(bool(outlook), is_harmless(book))
            self.assertEqual(one.reach, reach_of(book))


class TestErrors(unittest.TestCase):

    # For each error its family, its fields, and calls that raise it, with what the fields are then.
    FAMILIES = {InvalidPaper: (PaperError, ('word', 'at')), NotUsable: (BookError, ('word', 'at')),
                Shut: (BookError, ('ring',)), InvalidEvent: (LiveError, ('event', 'reason')),
                NothingToUndo: (LiveError, ('steps',)), InvalidText: (TextError, ('line', 'field')),
                InvalidRow: (TextError, ('row',))}

    def raised(self, error, fields, call, *rest, **more):
        family, names = self.FAMILIES[error]
        for base in (error, family, PieceError, ValueError):
            with self.assertRaises(base) as held:
                call(*rest, **more)
            self.assertIs(type(held.exception), error)
            self.assertEqual(tuple(getattr(held.exception, name) for name in names), fields)

    def test_families(self):
        for error, (family, names) in self.FAMILIES.items():
            self.assertEqual((error.__bases__, family.__bases__), ((family,), (PieceError,)))
            things = [object() for _ in names]
            made = error(*things)
            self.assertEqual(vars(made), dict(zip(names, things)))
            self.assertTrue(all(getattr(made, name) is thing for name, thing in zip(names, things)))
            self.assertEqual(vars(error(**dict(zip(names, things)))), dict(zip(names, things)))
            self.assertRaises(TypeError, error, *things, 0)
            self.assertRaises(TypeError, error, *things[1:])
        self.assertEqual(PieceError.__bases__, (ValueError,))

    def test_papers(self):
        heard = ((0, 0, 5),)
        for call, rest in ((lets_harm, (BOOK, 'missed', None)), (lets_spans, (SENDER, ROAD, heard, None)),
                           (lets_run, (BOOK, None)), (LiveHearer, (None,)), (Desk, (None,)), (Run, (BOOK, (), None)),
                           (Run.of, (BOOK, None)), (Book, (None, None, None))):
            self.raised(InvalidPaper, ('shape', -1), call, *rest)
        self.raised(InvalidPaper, ('arrival', 5), Run.of(BOOK, RUN).__add__, None)
        self.raised(InvalidPaper, ('sender', 0), Book.of, True, 3)

    def test_parameters(self):
        calls = (
            ('harm', harm_run, (BOOK, 'late')), ('cause', cause_run, (BOOK, 'twice')), ('harm', harm_paper, (BOOK, 0)),
            ('harm', lets_harm, (BOOK, 0, None)), ('book', Outlook, (None,)), ('harm', Outlook(BOOK).__getitem__, (0,)),
            ('other', Outlook(BOOK).lies_in, (BOOK,)), ('by', shifted, (BOOK, RUN, None)),
            ('k', without_arrival, (BOOK, RUN, 5)), ('late', joined_runs, (BOOK, RUN, RUN)),
            ('k', Run.of(BOOK, RUN).__getitem__, (True,)), ('k', Run.of(BOOK, RUN).__sub__, (-1,)),
            ('by', Run.of(BOOK, RUN).later, ('1',)), ('late', Run.of(BOOK, RUN).then, (RUN,)),
            ('text', causes_in, (BOOK, RUN, 0)), ('heard', spans, (SENDER, ROAD, ())),
            ('heard', span_paper, (SENDER, ROAD, [])), ('heard', lets_spans, (SENDER, ROAD, None, None)),
            ('number', meanings_of, (SENDER, ROAD, 4, -1, 4)), ('gap', sure_numbers, (SENDER, ROAD, True)),
            ('text', LiveHearer(BOOK).heard_between, (0,)), ('row', Desk(BOOK).say, (None,)), ('log', replayed, ((),)))
        for word, call, rest in calls:
            self.raised(NotUsable, (word, -1), call, *rest)
        self.raised(NotUsable, ('room', -1), harmless_settings, SENDER, ROAD, room=0, drop=None)
        self.raised(NotUsable, ('drop', -1), narrowest, SENDER, ROAD, room=1, drop=None)
        self.raised(NotUsable, ('memory', -1), Outlook(BOOK).with_hearer, drop=0, memory=True)

    def test_others(self):
        heard = ((0, 0, 5), (1, 1, 12))
        self.raised(Shut, (heard,), spans, SENDER, ROAD, heard)
        self.raised(InvalidEvent, (None, 'shape'), LiveHearer(BOOK).go, None)
        self.raised(InvalidEvent, (('hear', 0, 0, 0), 'text'), Desk(BOOK).say, 'hear 0 0 0')
        self.raised(NothingToUndo, (0,), LiveHearer(BOOK).undo)
        self.raised(NothingToUndo, (0,), Desk(BOOK).say, 'undo')
        self.raised(InvalidText, (0, 1), read_event, 'begin x 0')
        self.raised(InvalidText, (3, 0), book_read, book_text(BOOK) + '\n')
        self.raised(InvalidText, (0, 0), read_log, [])
        self.raised(InvalidRow, ('what',), Desk(BOOK).say, 'what')


def times_book(book, e):
    """The book with all moments multiplied."""
    (a, b, n, copies, numbers, pause), (d, late), (wait, memory, room, drop) = book
    sender = (a * e, b * e, n, copies, numbers, None if pause is None else pause * e)
    return (sender, (d * e, late * e), (wait * e, memory * e, room, drop))


def times_run(run, e):
    return (tuple((t * e, m) for t, m in run[0]), tuple((t * e, text, part) for t, text, part in run[1]))


def times(value, e):
    return None if value is None else value * e


def last_times(value, e):
    """The last moment ahead of one multiplied, if value is the last one ahead of it."""
    return None if value is None else (value + 1) * e - 1


class TestMultiplied(unittest.TestCase):

    def test_books(self):
        draws = Draws(161)
        for k in range(300):
            book, e = any_book(draws), (2, 3, 7, 10 ** 20)[k % 4]
            other = times_book(book, e)
            self.assertEqual((harms_that_can(other), causes_of(other)), (harms_that_can(book), causes_of(book)))
            self.assertEqual((crowd_of(other), reach_of(other)), (crowd_of(book), reach_of(book) * e))
            self.assertIs(are_alike(book, other), True)
            for tell in (least_numbers, least_room):
                self.assertEqual(tell(other), tell(book))
            for tell in (least_wait, least_memory):
                self.assertEqual(tell(other), times(tell(book), e))
            for tell in (greatest_wait, greatest_memory):
                self.assertEqual(tell(other), last_times(tell(book), e))
            if least_pause(book) is not None and least_pause(book) > book[0][0]:
                self.assertEqual(least_pause(other), (least_pause(book) - 1) * e + 1)
            self.settings(book, other, e)

    def settings(self, book, other, e):
        room, drop = book[2][2:]
        found = harmless_settings(book[0], book[1], room=room, drop=drop)
        told = None if found is None else tuple((low * e, last_times(high, e)) for low, high in found)
        self.assertEqual(harmless_settings(other[0], other[1], room=room, drop=drop), told)
        found = narrowest(book[0], book[1], room=room, drop=drop)
        self.assertEqual(narrowest(other[0], other[1], room=room, drop=drop) and found[0], found and found[0])

    def test_runs(self):
        draws = Draws(162)
        for k in range(200):
            book, e = any_book(draws), (2, 3, 7, 10 ** 20)[k % 4]
            run = any_run(draws, book, lost=9)
            other, later = times_book(book, e), times_run(run, e)
            self.assertEqual(lets_run(other, later), lets_run(book, run))
            self.assertEqual(fates_of(other, later), fates_of(book, run))
            self.assertEqual(harms_of(other, later), harms_of(book, run))
            self.assertEqual(shown_texts(other, later), shown_texts(book, run))
            missed = missed_texts(book, run)
            self.assertEqual(missed_texts(other, later), missed)
            self.assertEqual([causes_in(other, later, text) for text in missed],
                             [causes_in(book, run, text) for text in missed])
            self.assertEqual(showings_of(other, later), tuple((t * e, m, i) for t, m, i in showings_of(book, run)))
            self.assertEqual(remembered_of(other, later), tuple((m, t * e) for m, t in remembered_of(book, run)))
            self.assertEqual(open_of(other, later),
                             tuple((m, t * e, u * e, i) for m, t, u, i in open_of(book, run)))

    def test_harms(self):
        draws = Draws(163)
        for _ in range(60):
            book = any_book(draws)
            other = times_book(book, 5)
            for harm in HARMS:
                paper = harm_paper(book, harm)
                self.assertEqual(harm_paper(other, harm)[0], paper[0])
                if paper[0] == 'run':
                    self.assertEqual(len(harm_run(other, harm)[1]), len(paper[1][1]))
                    self.assertIs(lets_harm(other, harm, ('run', times_run(paper[1], 5))), True)

    def test_live_hearers(self):
        draws = Draws(164)
        for k in range(40):
            book, e = any_book(draws), (2, 10 ** 20)[k % 2]
            begins, arrivals = small_run(draws, book)
            live, other = LiveHearer(book), LiveHearer(times_book(book, e))
            for event in events_of((begins, arrivals)):
                answer = live.go(event)
                self.assertEqual(other.go((event[0], event[1] * e) + event[2:]), answer)
                self.assertEqual((other.harms_now, other.missed_now), (live.harms_now, live.missed_now))
                self.assertEqual(other.next_begins(),
                                 self.stretches(book[0], live.run_now[0][-1], e))

    def stretches(self, sender, last, e):
        """What next_begins tells with all moments multiplied, from the document's words."""
        (a, b, _, _, numbers, pause), (moment, number) = sender, last
        parts = [((number + 1) % numbers, (moment + a) * e, (moment + b) * e)]
        if pause is not None:
            parts.append((0, (moment + pause) * e, None))
            if parts[0][0] == 0 and (moment + pause) * e <= (moment + b) * e + 1:
                parts = [(0, (moment + a) * e, None)]
        return tuple(sorted(parts))

    def test_told_back(self):
        draws = Draws(165)
        for k in range(150):
            e = (2, 3, 10 ** 20)[k % 3]
            sender, road = any_sender(draws), (draws.below(3), draws.below(5))
            heard = any_heard(draws, sender, road, apart=k % 2)
            other = times_book((sender, road, HEARER), e)
            later = tuple((text, part, moment * e) for text, part, moment in heard)
            paper = span_paper(sender, road, heard)
            if paper[0] == 'spans':
                told = tuple((low * e, high * e) for low, high in spans(sender, road, heard))
                self.assertEqual(spans(other[0], other[1], later), told)
                rows = tuple((low * e, high * e, i, j) for low, high, i, j in paper[1])
                self.assertIs(lets_spans(other[0], other[1], later, ('spans', rows)), True)
            else:
                self.assertIs(lets_spans(other[0], other[1], later, paper), False)
                self.assertRaises(Shut, spans, other[0], other[1], later)

    def test_meanings(self):
        for (a, b, n), late, e in product(((1, 2, 2), (2, 3, 2), (2, 2, 1), (3, 5, 1)), (0, 1, 3, 5), (2, 3)):
            sender, road = (a, b, n, 1, 4, None), (1, late)
            other = times_book((sender, road, HEARER), e)
            for gap in range(16):
                for late_number in range(4):
                    self.assertEqual(meanings_of(other[0], other[1], 0, gap * e, late_number),
                                     meanings_of(sender, road, 0, gap, late_number))
                self.assertEqual(sure_numbers(other[0], other[1], gap * e), sure_numbers(sender, road, gap))


class TestGuarantees(unittest.TestCase):

    def test_what_can_be_is_shown_and_what_cannot_is_shut(self):
        draws = Draws(171)
        for _ in range(200):
            book = any_book(draws)
            for harm in HARMS:
                self.assertIs(lets_harm(book, harm, harm_paper(book, harm)), harm in harms_that_can(book))

    def test_b_and_d_do_not_count(self):
        draws = Draws(172)
        for _ in range(100):
            book = any_book(draws)
            (a, b, *rest), (d, late), hearer = book
            other = ((a, b + draws.below(9), *rest), (draws.below(9), late), hearer)
            self.assertEqual((harms_that_can(other), causes_of(other)), (harms_that_can(book), causes_of(book)))
            self.assertIs(same_roads(book, other), True)
            for tell in (least_numbers, least_wait, greatest_wait, least_memory, greatest_memory, least_room,
                         least_pause):
                self.assertEqual(tell(other), tell(book))
            for harm in harms_that_can(book):
                self.assertEqual(len(harm_run(other, harm)[1]), len(harm_run(book, harm)[1]))

    def test_harmless_books_show_each_text_once(self):
        draws = Draws(173)
        harmless = 0
        while harmless < 60:
            book = any_book(draws)
            found = narrowest(book[0], book[1], room=book[2][2], drop=book[2][3])
            if found is None:
                continue
            harmless += 1
            numbers, hearer = found
            sender = book[0][:4] + (numbers,) + book[0][5:]
            safe = (sender, book[1], hearer)
            run = any_run(draws, safe, lost=9)
            whole = [text for text in range(len(run[0])) if {part for _, at, part in run[1] if at == text}
                     == set(range(sender[2]))]
            self.assertEqual((harms_of(safe, run), shown_texts(safe, run)), ((), tuple((text, 1) for text in whole)))
            self.assertEqual([texts for _, _, texts in showings_of(safe, run) if len(set(texts)) > 1], [])
            self.assertEqual(len(showings_of(safe, run)), len(whole))
            self.assertIs(bool(Run(safe, *run)), True)

    def test_marks_and_ways(self):
        draws = Draws(174)
        for _ in range(60):
            book, e, g = any_book(draws), draws.between(1, 5), draws.between(1, 5)
            self.assertEqual(with_mark(with_mark(book, e), g), with_mark(book, e * g))
            d, late = book[1]
            ways = ((0, d, d + late), (1, d, d + late))
            self.assertEqual(with_ways(book, ways), with_ways(book, ways[::-1]))
            self.assertEqual(with_ways(book, ways), with_ways(book, ways * 2))
            self.assertGreaterEqual(with_ways(book, ways)[1][1], with_ways(book, ways[:1])[1][1])

    def test_each_part_is_in_one_place(self):
        # Each arrival that opens or comes is in a showing, still open, or in an open text that is gone.
        draws = Draws(175)
        gone = 0
        for _ in range(150):
            book = any_book(draws)
            begins, arrivals = any_run(draws, book, lost=6)
            heard = sum(word in ('opens', 'comes') for word, _, _ in fates_of(book, (begins, arrivals)))
            lost, before = 0, ()
            for k, fate in enumerate(fates_of(book, (begins, arrivals))):
                now = open_of(book, (begins, arrivals[:k + 1]))
                left = [row for row in before if row[:2] not in [each[:2] for each in now]]
                number = begins[arrivals[k][1]][1]
                shown = [row for row in left if fate == ('comes', None, True) and row[0] == number]
                lost += sum(part is not None for row in left if row not in shown for part in row[3])
                before = now
            still = sum(part is not None for row in before for part in row[3])
            shown = sum(len(texts) for _, _, texts in showings_of(book, (begins, arrivals)))
            self.assertEqual(heard, shown + still + lost)
            gone += lost
        self.assertGreater(gone, 100)

    def test_results_may_be_passed_in_again(self):
        numbers = least_numbers(((1, 1, 2, 1, 1, None), (0, 400), (400, 400, 801, 'newest')))
        self.assertEqual(numbers, 801)
        book = ((1, 1, 2, 1, numbers, None), (0, 400), (400, 400, 801, 'newest'))
        self.assertEqual([harm_paper(book, harm)[0] for harm in HARMS], ['never'] * 3)
        less = ((1, 1, 2, 1, numbers - 1, None),) + book[1:]
        run = harm_run(less, 'joined')
        self.assertEqual((lets_run(less, run), harms_of(less, run)), ((801, 2), ('joined',)))
        self.assertEqual(len(Run.of(less, run).then(Run(less, (), ()))), 2)

    def test_functions_do_not_change_their_arguments(self):
        heard = ((0, 0, 5), (1, 1, 6), (2, 0, 11))
        for _ in range(2):
            self.assertEqual(harm_run(BOOK, 'missed'), harm_run(BOOK, 'missed'))
            self.assertEqual(spans(SENDER, ROAD, heard), ((1, 3), (4, 5), (7, 8)))
            self.assertEqual(meanings_of(SENDER, ROAD, 0, 20, 2), (6, 10))
        self.assertEqual((BOOK, heard), (((2, 3, 2, 1, 4, None), (1, 3), (4, 1, 2, 'eldest')),
                                         ((0, 0, 5), (1, 1, 6), (2, 0, 11))))


if __name__ == '__main__':
    unittest.main()
