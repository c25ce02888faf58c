import unittest
from itertools import product

from pieceswindow.bookchanges import with_numbers
from pieceswindow.bookparts import reach_of
from pieceswindow.forms import is_harmless
from pieceswindow.live import LiveHearer
from pieceswindow.settings import harmless_settings, narrowest
from tests.models import Draws, any_book
from tests.samples import BOOK, NO_BOOKS, NO_NUMBERS, ROAD, SENDER, ErrorChecks
from tests.test_forms import book
from tests.test_harmruns import DROPS


class TestSettings(ErrorChecks, unittest.TestCase):

    def told_settings(self, sender, road, room, drop):
        """harmless_settings by all waits and memories one by one, to where nothing changes any more."""
        far = max(reach_of((sender, road, None)), road[1]) + 3
        pairs = [(wait, memory) for wait in range(far) for memory in range(far)
                 if is_harmless((sender, road, (wait, memory, room, drop)))]
        if not pairs:
            return None
        waits, memories = sorted({pair[0] for pair in pairs}), sorted({pair[1] for pair in pairs})
        self.assertEqual(pairs, list(product(waits, memories)))
        for values in (waits, memories):
            self.assertEqual(values, list(range(values[0], values[-1] + 1)))
        # A wait beyond all numbers is harmless with one part alone.
        self.assertEqual(waits[-1] == far - 1, sender[2] == 1)
        return ((waits[0], None if sender[2] == 1 else waits[-1]), (memories[0], memories[-1]))

    def check(self, sender, road, room, drop, told=None):
        """Checks both functions for a sender of few numbers."""
        told = self.told_settings(sender, road, room, drop)
        self.assertEqual(harmless_settings(sender, road, room=room, drop=drop), told, (sender, road, room, drop))
        found = narrowest(sender, road, drop=drop, room=room)
        able = [numbers for numbers in range(1, 20)
                if self.able(sender[:4] + (numbers,) + sender[5:], road, room, drop)]
        if not able:
            self.assertIs(found, None, (sender, road, room, drop))
        else:
            numbers, hearer = found
            self.assertEqual(numbers, able[0])
            self.assertEqual(hearer[2:], (room, drop))
            self.assertIs(is_harmless(with_numbers((sender, road, hearer), numbers)), True)

    def able(self, sender, road, room, drop):
        """Whether some hearer is harmless; more wait or memory than reach is never."""
        far = reach_of((sender, road, None)) + road[1] + 1
        late = road[1]
        return any(is_harmless((sender, road, (wait, memory, room, drop)))
                   for wait in {0, late, far} for memory in {0, late, far})

    def test_examples(self):
        found = [harmless_settings(SENDER, ROAD, room=3, drop='slowest'),
                 harmless_settings(SENDER, ROAD, room=3, drop='newest'),
                 harmless_settings(SENDER, ROAD, room=4, drop='newest')]
        self.assertEqual(found, [((3, 4), (0, 4)), None, ((3, 4), (0, 4))])
        self.assertEqual(narrowest(SENDER, ROAD, room=3, drop='eldest')[0], 4)
        self.assertIs(narrowest(SENDER, ROAD, room=2, drop='eldest'), None)
        self.assertEqual(harmless_settings((2, 3, 1, 2, 4, None), ROAD, room=1, drop='eldest'), ((0, None), (3, 4)))

    def test_small_senders(self):
        some = product((1, 2), (1, 2), (1, 2), (1, 2, 4), (None, 3, 5), (0, 1, 2, 3))
        for k, (a, n, copies, numbers, pause, late) in enumerate(some):
            for room in (1, 2, 3, 5):
                self.check((a, a + k % 2, n, copies, numbers, pause), (k % 3, late), room, DROPS[(k + room) % 3])

    def test_each_rule_and_room(self):
        for drop, late, room, numbers in product(DROPS, range(5), range(1, 7), (3, 5)):
            self.check((2, 2, 2, 1, numbers, None), (0, late), room, drop)

    def test_any_senders(self):
        draws = Draws(121)
        for _ in range(60):
            (sender, road, (_, _, room, drop)) = any_book(draws)
            self.check(sender, road, room, drop)

    def test_numbers_of_the_sender_do_not_count(self):
        for numbers in (1, 2, 9, 60, 10 ** 30):
            self.assertEqual(narrowest((2, 3, 2, 1, numbers, None), ROAD, room=3, drop='eldest')[0], 4)
            self.assertIs(narrowest((2, 3, 2, 1, numbers, 6), ROAD, room=3, drop='eldest'), None)
            self.assertEqual(narrowest((2, 3, 2, 1, numbers, 7), ROAD, room=3, drop='eldest')[0], 4)

    def test_keywords_in_any_order(self):
        self.assertEqual(harmless_settings(drop='newest', room=4, road=ROAD, sender=SENDER), ((3, 4), (0, 4)))
        self.assertEqual(narrowest(drop='newest', room=4, road=ROAD, sender=SENDER)[0], 4)
        for call in (harmless_settings, narrowest):
            self.assertRaises(TypeError, call, SENDER, ROAD, 3, 'eldest')
            self.assertRaises(TypeError, call, SENDER, ROAD, room=3)

    def test_kinds_of_results(self):
        found = harmless_settings(SENDER, ROAD, room=4, drop='newest')
        self.assertEqual([type(each) for each in (found,) + found], [tuple] * 3)
        found = narrowest(SENDER, ROAD, room=4, drop='newest')
        self.assertEqual([type(each) for each in (found, found[0], found[1])], [tuple, int, tuple])

    def test_beyond_the_limits(self):
        sender = (1, 60, 2, 60, 60, None)
        self.assertIs(harmless_settings(sender, (400, 400), room=60, drop='newest'), None)
        self.assertIs(narrowest(sender, (400, 400), room=60, drop='newest'), None)
        self.assertEqual(narrowest(sender, (400, 400), room=801, drop='newest'), (801, (400, 400, 801, 'newest')))
        found = harmless_settings((60, 60, 2, 60, 60, None), (0, 400), room=60, drop='newest')
        self.assertEqual(found, ((400, 3199), (400, 3199)))
        found = harmless_settings((60, 60, 2, 60, 60, None), (0, 400), room=40, drop='newest')
        self.assertEqual(found, ((400, 1999), (400, 3199)))
        found = harmless_settings((60, 60, 2, 1, 10 ** 50, None), (0, 0), room=1, drop='eldest')
        self.assertEqual(found, ((0, 6 * 10 ** 51 - 1), (0, 6 * 10 ** 51 - 1)))

    def test_consequences(self):
        draws = Draws(122)
        for _ in range(200):
            sender, road, (wait, memory, room, drop) = one = any_book(draws)
            found = harmless_settings(sender, road, room=room, drop=drop)
            within = found is not None and found[0][0] <= wait and (
                found[0][1] is None or wait <= found[0][1]) and found[1][0] <= memory <= found[1][1]
            self.assertIs(is_harmless(one), within)

    def test_wrong_values(self):
        for call in (harmless_settings, narrowest):
            for thing in NO_BOOKS + (ROAD, BOOK, list(SENDER), (2, 1, 2, 1, 4, None), (2, 3, 2, 1, 4, 1),
                                     LiveHearer(BOOK)):
                self.not_usable('sender', call, thing, ROAD, room=3, drop='eldest')
                self.not_usable('sender', call, thing, None, room=0, drop='late')
            for thing in NO_BOOKS + (SENDER, list(ROAD), (1, True), (-1, 3), (1,), LiveHearer(BOOK)):
                self.not_usable('road', call, SENDER, thing, room=3, drop='eldest')
                self.not_usable('road', call, SENDER, thing, drop=None, room=0)
            for thing in NO_NUMBERS + (0, book()):
                self.not_usable('room', call, SENDER, ROAD, room=thing, drop='eldest')
                self.not_usable('room', call, SENDER, ROAD, drop='late', room=thing)
            for thing in NO_BOOKS + ('late', 'Eldest', ['eldest'], ('eldest',), 3):
                if thing != 'eldest':
                    self.not_usable('drop', call, SENDER, ROAD, room=3, drop=thing)


if __name__ == '__main__':
    unittest.main()
