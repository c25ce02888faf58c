import unittest
from itertools import product

from pieceswindow.forms import can_be, causes_of, crowd_of, harms_that_can, is_harmless
from pieceswindow.bookparts import reach_of
from tests.samples import BOOK, HEARER, LONGER, NO_BOOKS, ROAD, SAFE, SENDER, ErrorChecks

DROPS = ('eldest', 'newest', 'slowest')
HARMS = ('joined', 'missed', 'twice')


def book(a=2, b=None, n=2, copies=1, numbers=4, pause=None, d=0, late=3, wait=3, memory=0, room=9, drop='eldest'):
    """A harmless book, if nothing else is said: reach is 8, late 3."""
    return ((a, b or a, n, copies, numbers, pause), (d, late), (wait, memory, room, drop))


def told_crowd(a, late, wait, drop):
    """crowd as the document's definition says it, x by x."""
    if drop == 'newest':
        return (wait + late) // a
    return max((late - x) // a + (x + min(wait, late - x)) // a for x in range(late + 1))


def told_causes(one):
    """The causes as (G4) says them."""
    (a, _, n, _, numbers, pause), (_, late), (wait, memory, room, drop) = one
    reach = min(numbers * a, numbers * a if pause is None else pause)
    crowd = told_crowd(a, late, wait, drop)
    found = []
    if n >= 2 and room <= crowd and room < numbers:
        found.append('crowded')
    if n >= 2 and reach <= late + wait:
        found.append('joined')
    if n >= 2 and late > wait:
        found.append('late')
    if reach <= late + memory:
        found.append('swallowed')
    return tuple(found)


def told_harms(one):
    """The harms as (G1) to (G3) say them."""
    causes = told_causes(one)
    found = ['joined'] if 'joined' in causes else []
    if causes:
        found.append('missed')
    if one[0][3] >= 2 and one[1][1] > one[2][1]:
        found.append('twice')
    return tuple(found)


class TestForms(ErrorChecks, unittest.TestCase):

    def told(self, harms, causes, one):
        self.assertEqual(harms_that_can(one), harms)
        self.assertEqual(causes_of(one), causes)
        self.assertIs(is_harmless(one), harms == ())
        for harm in HARMS:
            self.assertIs(can_be(one, harm), harm in harms)

    def test_examples(self):
        found = [crowd_of(BOOK), can_be(BOOK, 'joined'), harms_that_can(BOOK), causes_of(BOOK)]
        self.assertEqual(found, [2, False, ('missed',), ('crowded',)])
        found = [harms_that_can(LONGER), causes_of(LONGER), is_harmless(SAFE)]
        self.assertEqual(found, [('joined', 'missed'), ('joined',), True])
        self.assertEqual(crowd_of((SENDER, ROAD, (4, 1, 3, 'newest'))), 3)
        self.not_usable('harm', can_be, BOOK, 'late')

    def test_harmless(self):
        self.told((), (), book())
        self.told((), (), book(n=1, wait=400, room=1))

    def test_joined(self):
        self.told((), (), book(wait=4))
        self.told(('joined', 'missed'), ('joined',), book(wait=5))
        self.told((), (), book(n=1, wait=5))
        self.told((), (), book(pause=7, wait=3))
        self.told(('joined', 'missed'), ('joined',), book(pause=6, wait=3))
        self.told(('joined', 'missed'), ('joined',), book(n=3, wait=5))

    def test_twice(self):
        self.told((), (), book(copies=2, memory=3))
        self.told(('twice',), (), book(copies=2, memory=2))
        self.told((), (), book(copies=1, memory=2))
        self.told(('twice',), (), book(n=1, copies=2, memory=2))
        self.told((), (), book(copies=2, late=0, memory=0))

    def test_swallowed(self):
        self.told((), (), book(memory=4))
        self.told(('missed',), ('swallowed',), book(memory=5))
        self.told(('missed',), ('swallowed',), book(n=1, memory=5))
        self.told(('missed',), ('swallowed',), book(n=1, late=8))

    def test_late(self):
        self.told((), (), book(wait=3))
        self.told(('missed',), ('late',), book(wait=2))
        self.told((), (), book(n=1, wait=2))

    def test_crowded(self):
        self.told((), (), book(room=3))
        self.told(('missed',), ('crowded',), book(room=2))
        self.told((), (), book(n=1, room=2))
        self.told((), (), book(room=4, drop='newest'))
        self.told(('missed',), ('crowded',), book(room=3, drop='newest'))
        self.told(('missed',), ('crowded',), book(room=2, drop='slowest'))
        self.told((), (), book(room=3, drop='slowest'))

    def test_room_at_numbers(self):
        # crowd is 6, so numbers alone decides where room is 2: one more, and it can be.
        self.told(('joined', 'missed'), ('joined', 'swallowed'), book(a=1, numbers=2, room=2))
        found = causes_of(book(a=1, numbers=3, room=2))
        self.assertEqual(found, ('crowded', 'joined', 'swallowed'))
        self.assertEqual(causes_of(book(a=1, numbers=3, room=3)), ('joined', 'swallowed'))

    def test_all_at_once(self):
        one = book(a=1, copies=2, numbers=2, late=3, wait=1, room=1, pause=1)
        self.told(('joined', 'missed', 'twice'), ('crowded', 'joined', 'late', 'swallowed'), one)

    def test_pause_takes_part(self):
        self.told(('missed',), ('swallowed',), book(pause=3, n=1))
        self.told((), (), book(pause=4, n=1))

    def test_crowd_by_its_definition(self):
        for a, late, wait, drop in product(range(1, 8), range(14), range(18), DROPS):
            found = crowd_of(book(a=a, late=late, wait=wait, drop=drop))
            self.assertEqual(found, told_crowd(a, late, wait, drop), (a, late, wait, drop))

    def test_crowd_at_the_limits(self):
        for a, late, wait in product((1, 7, 59, 60), (0, 1, 399, 400), (0, 1, 59, 60, 398, 399, 400)):
            for drop in DROPS:
                found = crowd_of(book(a=a, late=late, wait=wait, drop=drop))
                self.assertEqual(found, told_crowd(a, late, wait, drop))

    def test_forms_by_their_definition(self):
        some = product((1, 2, 3), (1, 2), (1, 2), (1, 2, 4), (None, 3, 4),
                       (0, 3, 4), (0, 3, 5), (0, 2, 3), (1, 2), DROPS)
        for a, n, copies, numbers, pause, late, wait, memory, room, drop in some:
            one = book(a=a, n=n, copies=copies, numbers=numbers, pause=pause, late=late, wait=wait, memory=memory,
                       room=room, drop=drop)
            self.assertEqual(causes_of(one), told_causes(one), one)
            self.assertEqual(harms_that_can(one), told_harms(one), one)

    def test_b_and_d_do_not_count(self):
        for b, d in ((2, 0), (3, 0), (60, 0), (2, 1), (2, 400)):
            for wait, memory, room in product((2, 3, 5), (0, 5), (2, 3)):
                one = book(b=b, d=d, wait=wait, memory=memory, room=room)
                other = book(wait=wait, memory=memory, room=room)
                self.assertEqual(harms_that_can(one), harms_that_can(other))
                self.assertEqual(causes_of(one), causes_of(other))
                self.assertEqual(crowd_of(one), crowd_of(other))

    def test_consequences_of_crowd(self):
        for a, late, wait, numbers in product(range(1, 5), range(8), range(10), range(1, 5)):
            crowds = [crowd_of(book(a=a, late=late, wait=wait, numbers=numbers, drop=drop)) for drop in DROPS]
            self.assertEqual(crowds[0], crowds[2])
            self.assertGreaterEqual(crowds[1], crowds[0])
            if wait >= late:
                self.assertEqual(crowds[0], 2 * (late // a))
            if reach_of(book(a=a, numbers=numbers)) > late + wait:
                self.assertLess(max(crowds), numbers)

    def test_consequences_of_missed(self):
        for one in self.some_books():
            self.assertIs(can_be(one, 'missed'), causes_of(one) != ())
            if can_be(one, 'joined'):
                self.assertTrue(can_be(one, 'missed'))

    def test_consequences_of_more(self):
        for (a, b, n, copies, numbers, pause), road, (wait, memory, room, drop) in self.some_books():
            hearer = (wait, memory, room, drop)
            harms = harms_that_can(((a, b, n, copies, numbers, pause), road, hearer))
            for more in (1, 2, 5):
                fewer = harms_that_can(((a, b, n, copies, numbers + more, pause), road, hearer))
                self.assertLessEqual(set(fewer), set(harms))
                fewer = harms_that_can(((a, b, n, copies, numbers, pause), road, (wait, memory, room + more, drop)))
                self.assertLessEqual(set(fewer), set(harms))
                others = harms_that_can(((a, b, n + more, copies, numbers, pause), road, hearer))
                self.assertLessEqual(set(harms), set(others))

    def some_books(self):
        some = product((1, 3), (1, 2), (1, 2), (1, 3), (None, 4),
                       (0, 3), (0, 3, 4), (0, 3), (1, 2), ('eldest', 'newest'))
        for a, n, copies, numbers, pause, late, wait, memory, room, drop in some:
            yield book(a=a, n=n, copies=copies, numbers=numbers, pause=pause, late=late, wait=wait, memory=memory,
                       room=room, drop=drop)

    def test_results_are_sets(self):
        self.assertIs(type(harms_that_can(BOOK)), tuple)
        self.assertIs(type(causes_of(BOOK)), tuple)

    def test_other_harms(self):
        for harm in NO_BOOKS + ('late', 'swallowed', 'crowded', 'Joined', ['joined'], ('joined',), BOOK):
            self.not_usable('harm', can_be, BOOK, harm)

    def test_by_name(self):
        self.assertIs(can_be(harm='missed', book=BOOK), True)
        for form in (crowd_of, harms_that_can, causes_of, is_harmless):
            self.assertEqual(form(book=LONGER), form(LONGER))


if __name__ == '__main__':
    unittest.main()
