import unittest
from itertools import product

from pieceswindow.bookchanges import with_memory, with_numbers, with_pause, with_room, with_wait
from pieceswindow.forms import is_harmless
from pieceswindow.leasts import greatest_memory, greatest_wait, least_memory, least_numbers, least_pause, least_room
from pieceswindow.leasts import least_wait
from tests.models import Draws, any_book
from tests.samples import BOOK, HEARER, ROAD, SENDER
from tests.test_forms import book
from tests.test_harmruns import DROPS

GOOD = (SENDER, ROAD, (4, 1, 3, 'eldest'))


def harmless_among(one, change, values):
    """The values among these with which the book is harmless."""
    return [value for value in values if is_harmless(change(one, value))]


class TestLeasts(unittest.TestCase):

    def check(self, one):
        """Checks all seven values against all values one by one, to where nothing changes any more."""
        (a, _, n, _, numbers, pause), (_, late), (wait, memory, room, _) = one
        reach = min(numbers * a, numbers * a if pause is None else pause)
        far = late + max(wait, memory)
        waits = harmless_among(one, with_wait, range(max(reach, late) + 3))
        self.least_and_most(one, least_wait, greatest_wait, waits, endless=n == 1)
        memories = harmless_among(one, with_memory, range(max(reach, late) + 3))
        self.least_and_most(one, least_memory, greatest_memory, memories)
        found = harmless_among(one, with_numbers, range(1, far // a + numbers + 4))
        self.assertEqual(least_numbers(one), found[0] if found else None, one)
        found = harmless_among(one, with_room, range(1, numbers + far // a + 3))
        self.assertEqual(least_room(one), found[0] if found else None, one)
        self.assertEqual(found, [room for room in range(1, numbers + far // a + 3) if found and room >= found[0]])
        found = harmless_among(one, with_pause, range(a, a + far + 3))
        self.assertEqual(least_pause(one), found[0] if found else None, one)

    def least_and_most(self, one, least, most, values, endless=False):
        """Checks the least and the greatest of these values, which leave none out in between."""
        self.assertEqual(least(one), values[0] if values else None, one)
        self.assertEqual(most(one), values[-1] if values and not endless else None, one)
        if values:
            self.assertEqual(values, list(range(values[0], values[-1] + 1)))

    def test_examples(self):
        found = [least_room(BOOK), least_numbers(BOOK), least_numbers(GOOD), least_pause(GOOD)]
        self.assertEqual(found, [3, None, 4, 8])
        found = [least_wait(GOOD), greatest_wait(GOOD), least_memory(GOOD), greatest_memory(GOOD)]
        self.assertEqual(found, [3, 4, 0, 4])

    def test_books_of_the_examples(self):
        for one in (BOOK, GOOD, (SENDER, ROAD, (5, 1, 3, 'eldest')), (SENDER, (1, 4), HEARER)):
            self.check(one)

    def test_by_name(self):
        for tell in (least_numbers, least_wait, greatest_wait, least_memory, greatest_memory, least_room, least_pause):
            self.assertEqual(tell(book=GOOD), tell(GOOD))

    def test_many_books(self):
        some = product((1, 2, 3), (1, 2), (1, 2), (1, 2, 4, 9), (None, 3, 7), (0, 2, 3), (0, 2, 3, 5), (0, 2, 3),
                       (1, 2, 3, 6))
        for k, (a, n, copies, numbers, pause, late, wait, memory, room) in enumerate(some):
            self.check(book(a, a + 1, n, copies, numbers, pause, 1, late, wait, memory, room, DROPS[k % 3]))

    def test_any_books(self):
        draws = Draws(81)
        for _ in range(400):
            self.check(any_book(draws))

    def test_room_and_wait_by_each_rule(self):
        for drop, late, wait, room, numbers in product(DROPS, range(6), range(6), range(1, 8), (2, 3, 5, 8)):
            self.check(book(numbers=numbers, late=late, wait=wait, room=room, drop=drop))

    def test_wait_by_newest(self):
        # With a pace of 2, late 3: room 3 lets the text wait up to 5 - 3, which is too short; 4 up to 7 - 3.
        for room, told in ((3, (None, None)), (4, (3, 4)), (5, (3, 6)), (6, (3, 8)), (20, (3, 36)), (21, (3, 36))):
            one = book(numbers=20, room=room, drop='newest')
            self.assertEqual((least_wait(one), greatest_wait(one)), told)

    def test_no_wait_counts_with_one_part(self):
        one = book(n=1, copies=2, memory=3, room=1)
        self.assertEqual((least_wait(one), greatest_wait(one), least_room(one)), (0, None, 1))
        one = book(n=1, copies=2, memory=2, room=1)
        self.assertEqual((least_wait(one), greatest_wait(one), least_room(one)), (None, None, None))
        self.assertEqual((least_memory(one), greatest_memory(one)), (3, 4))

    def test_none(self):
        # Shown twice, whatever the numbers, the wait, the room and the pause are.
        one = book(copies=2, memory=2)
        tells = (least_numbers, least_wait, greatest_wait, least_room, least_pause)
        self.assertEqual([tell(one) for tell in tells], [None] * 5)
        # Late, whatever the numbers, the memory, the room and the pause are.
        one = book(wait=2)
        tells = (least_numbers, least_memory, greatest_memory, least_room, least_pause)
        self.assertEqual([tell(one) for tell in tells], [None] * 5)
        # A pause that is too short for any numbers, and too few numbers for any pause.
        self.assertEqual([least_numbers(book(pause=6)), least_pause(book(pause=6))], [None, 7])
        self.assertEqual([least_numbers(book(numbers=3)), least_pause(book(numbers=3))], [4, None])

    def test_the_own_value_does_not_count(self):
        draws = Draws(82)
        for _ in range(100):
            one = any_book(draws)
            for value in (1, 2, 7, 60):
                self.assertEqual(least_numbers(with_numbers(one, value)), least_numbers(one))
                self.assertEqual(least_room(with_room(one, value)), least_room(one))
                for tell in (least_wait, greatest_wait):
                    self.assertEqual(tell(with_wait(one, value)), tell(one))
                for tell in (least_memory, greatest_memory):
                    self.assertEqual(tell(with_memory(one, value)), tell(one))
                for pause in (None, one[0][0] + value):
                    self.assertEqual(least_pause(with_pause(one, pause)), least_pause(one))

    def test_values_beyond_the_limits(self):
        one = book(a=1, b=1, numbers=60, late=400, wait=400, memory=400, room=60, drop='newest')
        self.assertEqual([least_numbers(one), least_room(with_numbers(one, 801))], [None, 801])
        self.assertEqual(least_numbers(with_room(one, 801)), 801)
        self.assertEqual(least_pause(with_room(with_numbers(one, 801), 801)), 801)
        one = book(a=60, b=60, numbers=60, late=400, wait=400, memory=400, room=60)
        self.assertEqual((greatest_wait(one), greatest_memory(one)), (3199, 3199))
        self.assertEqual(greatest_wait((one[0], one[1], (0, 0, 17, 'newest'))), 619)
        one = book(a=1, b=1, n=1, numbers=60, late=400, memory=400)
        self.assertEqual((least_numbers(one), least_pause(with_numbers(one, 60))), (801, None))
        one = book(a=10 ** 40, b=10 ** 40, numbers=10 ** 40, late=10 ** 50, wait=10 ** 50, memory=0, room=10 ** 20)
        self.assertEqual(least_numbers(one), 2 * 10 ** 10 + 1)
        self.assertEqual((greatest_wait(one), least_room(one)), (10 ** 80 - 10 ** 50 - 1, 2 * 10 ** 10 + 1))

    def test_consequences(self):
        draws = Draws(83)
        for _ in range(300):
            one = any_book(draws)
            (_, _, n, *_), (_, late), (wait, memory, room, _) = one
            if least_room(one) is not None:
                self.assertIs(is_harmless(one), room >= least_room(one))
            else:
                self.assertIs(is_harmless(one), False)
            if least_memory(one) is not None:
                self.assertIs(is_harmless(one), least_memory(one) <= memory <= greatest_memory(one))
            self.assertIn(least_wait(one), (None, late) if n > 1 else (None, 0))
            if greatest_wait(one) is None:
                self.assertTrue(n == 1 or least_wait(one) is None)
            if is_harmless(one):
                for more in (1, 2, 30):
                    self.assertIs(is_harmless(with_numbers(one, one[0][4] + more)), True)
                    self.assertIs(is_harmless(with_room(one, room + more)), True)

    def test_kinds_of_results(self):
        for tell in (least_numbers, least_wait, greatest_wait, least_memory, greatest_memory, least_room, least_pause):
            self.assertIs(type(tell(GOOD)), int)


if __name__ == '__main__':
    unittest.main()
