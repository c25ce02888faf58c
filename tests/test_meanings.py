import unittest
from itertools import product

from pieceswindow.meanings import meanings_of, sure_numbers
from pieceswindow.runchecker import lets_run
from tests.models import Draws
from tests.samples import NO_BOOKS, NO_NUMBERS, ROAD, SENDER, ErrorChecks, replaced


def sender(a=2, b=3, n=2, copies=1, numbers=4):
    return (a, b, n, copies, numbers, None)


def by_runs(one, road, number, gap, late_number, many=6):
    """meanings_of by all beginnings of so many texts, one by one; texts further off must not count."""
    a, b, n, copies, numbers, _ = one
    d, late = road
    found = set()
    for gaps in product(range(a, b + 1), repeat=many - 1):
        begins = [0]
        for each in gaps:
            begins.append(begins[-1] + each)
        # The part with number is one of the first text, or of the last one.
        for own in (0, many - 1):
            for behind in range(late + 1):
                moment = begins[own] + d + behind + gap
                for text in range(many):
                    if begins[text] + d <= moment <= begins[text] + d + late:
                        if (number + text - own) % numbers == late_number and (text != own or n > 1 or copies > 1):
                            found.add(text - own)
    return tuple(sorted(found))


def told_range(one, road, gap):
    """The k that can be for some late_number, as [60] says it."""
    a, b, n, copies, _, _ = one
    late = road[1]
    least = -((late - gap) // a)
    if gap > late:
        least = min(k for k in range(gap + 1) if k * b >= gap - late)
    return [k for k in range(least, (gap + late) // a + 1) if k or n > 1 or copies > 1]


class TestMeanings(ErrorChecks, unittest.TestCase):

    def test_examples(self):
        found = [meanings_of(SENDER, ROAD, 0, 3, 2), meanings_of(SENDER, ROAD, 0, 1, 3),
                 meanings_of(SENDER, ROAD, 0, 20, 2), meanings_of(SENDER, ROAD, 1, 4, 1)]
        self.assertEqual(found, [(2,), (-1,), (6, 10), ()])

    def test_by_name(self):
        found = meanings_of(late_number=2, gap=20, number=0, road=ROAD, sender=SENDER)
        self.assertEqual(found, (6, 10))

    def test_by_runs(self):
        for a, more, late, d in ((1, 0, 0, 0), (1, 1, 2, 1), (2, 0, 3, 0), (2, 1, 1, 2), (2, 1, 4, 0), (3, 2, 5, 1)):
            for n, copies, numbers in ((1, 1, 1), (1, 1, 3), (1, 2, 2), (2, 1, 2), (2, 1, 4), (3, 2, 3)):
                one, road = sender(a, a + more, n, copies, numbers), (d, late)
                for gap in range(late + 3):
                    # Six texts are enough: the sixth place begins 5 * a behind at the least.
                    if gap + late >= 6 * a:
                        continue
                    for number, late_number in product((0, numbers - 1), range(numbers)):
                        found = meanings_of(one, road, number, gap, late_number)
                        self.assertEqual(found, by_runs(one, road, number, gap, late_number), (one, road, gap))

    def test_by_their_consequence(self):
        for a, more, late in product((1, 2, 3, 7), (0, 1, 5), (0, 1, 2, 3, 8)):
            for n, copies, numbers in ((1, 1, 1), (1, 1, 4), (1, 2, 3), (2, 1, 5)):
                one, road = sender(a, a + more, n, copies, numbers), (3, late)
                for gap in range(0, 3 * late + 12):
                    places = told_range(one, road, gap)
                    all_of_them = []
                    for late_number in range(numbers):
                        found = meanings_of(one, road, 1 % numbers, gap, late_number)
                        self.assertEqual(found, tuple(k for k in places if (1 + k - late_number) % numbers == 0))
                        all_of_them.extend(found)
                    self.assertEqual(sorted(all_of_them), places)

    def test_runs_that_have_both(self):
        # A part of each text and one of text k behind it, at the moments of which the results speak.
        one, road = sender(2, 3, 2, 1, 4), ROAD
        for gap in range(12):
            for k in told_range(one, road, gap):
                self.assertTrue(any(self.has(one, road, pace, gap, k, behind) for pace in ((2,), (3,), (2, 3), (3, 2))
                                    for behind in range(4)), (gap, k))

    def has(self, one, road, pace, gap, k, behind):
        """Whether a run at these paces in turn has an arrival so far behind, and one of text k behind it after gap."""
        many = abs(k) + 1
        begins = [(0, 0)]
        for each in range(many - 1):
            begins.append((begins[-1][0] + pace[each % len(pace)], (each + 1) % 4))
        own, other = (0, many - 1) if k >= 0 else (many - 1, 0)
        moment = begins[own][0] + 1 + behind
        arrivals = ((moment, own, 0), (moment + gap, other, 1))
        if not begins[other][0] + 1 <= moment + gap <= begins[other][0] + 4:
            return False
        self.assertEqual(lets_run((one, road, (0, 0, 1, 'eldest')), (tuple(begins), arrivals)), (many, 2))
        return True

    def test_the_same_text(self):
        for n, copies, told in ((1, 1, ()), (1, 2, (0,)), (2, 1, (0,)), (2, 2, (0,))):
            self.assertEqual(meanings_of(sender(a=9, b=9, n=n, copies=copies), ROAD, 3, 3, 3), told)
            self.assertEqual(meanings_of(sender(a=9, b=9, n=n, copies=copies), ROAD, 3, 4, 3), ())

    def test_gaps_beside_late(self):
        one = sender(a=2, b=2, numbers=1)
        found = [meanings_of(one, (0, 4), 0, gap, 0) for gap in (0, 1, 2, 3, 4, 5, 6, 7, 8)]
        self.assertEqual(found, [(-2, -1, 0, 1, 2), (-1, 0, 1, 2), (-1, 0, 1, 2, 3), (0, 1, 2, 3), (0, 1, 2, 3, 4),
                                 (1, 2, 3, 4), (1, 2, 3, 4, 5), (2, 3, 4, 5), (2, 3, 4, 5, 6)])
        self.assertEqual([meanings_of(one, (0, 0), 0, gap, 0) for gap in range(5)], [(0,), (), (1,), (), (2,)])

    def test_numbers_come_round(self):
        for number, late_number in product(range(4), range(4)):
            found = meanings_of(SENDER, ROAD, number, 20, late_number)
            self.assertEqual(found, tuple(k for k in range(6, 12) if (number + k - late_number) % 4 == 0))

    def test_great_values(self):
        self.assertEqual(meanings_of(sender(60, 60, numbers=60), (400, 400), 59, 10 ** 6, 40), (16661,))
        one = (10 ** 40, 10 ** 40, 2, 1, 10 ** 50, None)
        self.assertEqual(meanings_of(one, (5, 10 ** 39), 10 ** 50 - 1, 10 ** 58, 10 ** 18 - 1), (10 ** 18,))

    def test_kinds_of_results(self):
        self.assertIs(type(meanings_of(SENDER, ROAD, 0, 3, 2)), tuple)
        self.assertIs(type(sure_numbers(SENDER, ROAD, 3)), int)

    def test_wrong_senders_and_roads(self):
        for thing in NO_BOOKS + ((2, 3, 2, 1, 4, 2), (2, 3, 2, 1, 4, 9), (2, 1, 2, 1, 4, None), list(SENDER), ROAD,
                                 SENDER[:5], SENDER + (None,), (2, 3, True, 1, 4, None), (SENDER, ROAD)):
            self.not_usable('sender', meanings_of, thing, ROAD, 0, 3, 2)
            self.not_usable('sender', meanings_of, thing, None, None, None, None)
            self.not_usable('sender', sure_numbers, thing, ROAD, 3)
            self.not_usable('sender', sure_numbers, thing, None, -1)
        for thing in NO_BOOKS + (SENDER, list(ROAD), (1,), (1, 3, 0), (-1, 3), (1, True), (None, 3)):
            self.not_usable('road', meanings_of, SENDER, thing, 0, 3, 2)
            self.not_usable('road', meanings_of, SENDER, thing, 4, -1, 4)
            self.not_usable('road', sure_numbers, SENDER, thing, 3)
            self.not_usable('road', sure_numbers, SENDER, thing, -1)

    def test_wrong_numbers_and_gaps(self):
        for thing in NO_NUMBERS + (4, 10 ** 59):
            self.not_usable('number', meanings_of, SENDER, ROAD, thing, 3, 2)
            self.not_usable('number', meanings_of, SENDER, ROAD, thing, None, None)
            self.not_usable('late_number', meanings_of, SENDER, ROAD, 0, 3, thing)
        for thing in NO_NUMBERS:
            self.not_usable('gap', meanings_of, SENDER, ROAD, 3, thing, 4)
            self.not_usable('gap', sure_numbers, SENDER, ROAD, thing)
        self.not_usable('number', meanings_of, sender(numbers=1), ROAD, 1, 3, 0)
        self.not_usable('late_number', meanings_of, sender(numbers=1), ROAD, 0, 3, 1)


class TestSureNumbers(unittest.TestCase):

    def sure(self, one, road, gap):
        """sure_numbers by meanings_of with more and more numbers; with these it must go on to be so."""
        def is_sure(numbers):
            other = replaced(one, 4, numbers)
            return all(len(meanings_of(other, road, 0, each, late_number)) < 2
                       for each in range(gap + 1) for late_number in range(numbers))
        least = next(numbers for numbers in range(1, 99) if is_sure(numbers))
        self.assertTrue(is_sure(least + 1) and is_sure(least + 2) and is_sure(2 * least + 1))
        return least

    def test_examples(self):
        self.assertEqual([sure_numbers(SENDER, ROAD, 3), sure_numbers(SENDER, ROAD, 10)], [4, 5])
        self.assertEqual(sure_numbers(gap=10, road=ROAD, sender=SENDER), 5)

    def test_by_meanings(self):
        for a, more, late in product((1, 2, 3), (0, 1, 2), (0, 1, 2, 3, 4)):
            for n, copies in ((1, 1), (1, 2), (2, 1)):
                one, road = sender(a, a + more, n, copies), (1, late)
                for gap in (0, 1, 2, 3, 4, 5, 9):
                    self.assertEqual(sure_numbers(one, road, gap), self.sure(one, road, gap), (one, road, gap))

    def test_texts_that_arrive_once(self):
        # Texts beside a part alone: -1 and 1, two apart; none behind; none but 0.
        self.assertEqual(sure_numbers(sender(3, 3, 1), (0, 3), 0), 3)
        self.assertEqual(sure_numbers(sender(4, 4, 1), (0, 3), 0), 1)
        self.assertEqual(sure_numbers(sender(3, 3, 1), (0, 4), 1), 3)
        self.assertEqual(sure_numbers(sender(1, 1, 1), (0, 1), 0), 3)
        self.assertEqual(sure_numbers(sender(1, 1, 1), (0, 0), 0), 1)
        self.assertEqual(sure_numbers(sender(1, 1, 1), (0, 0), 9), 1)

    def test_own_numbers_do_not_count(self):
        draws = Draws(91)
        for _ in range(40):
            a, n = draws.between(1, 4), draws.between(1, 2)
            b, late, gap = a + draws.below(3), draws.below(9), draws.below(30)
            found = {sure_numbers(sender(a, b, n, 1, numbers), (1, late), gap) for numbers in (1, 2, 7, 60, 10 ** 20)}
            self.assertEqual(len(found), 1)

    def test_great_gaps(self):
        for a, b, late in ((1, 1, 400), (1, 60, 400), (60, 60, 0), (7, 9, 33)):
            one, road = sender(a, b), (0, late)
            told = max(len(told_range(one, road, gap)) for gap in range(2001))
            self.assertEqual(sure_numbers(one, road, 2000), told)
        self.assertEqual(sure_numbers(sender(1, 60), (0, 400), 2000), 2374)

    def test_consequences(self):
        for a, more, late, n in product((1, 2, 3), (0, 1, 3), (0, 1, 2, 5), (1, 2)):
            one, road = sender(a, a + more, n), (1, late)
            told = [sure_numbers(one, road, gap) for gap in range(25)]
            self.assertEqual(told, sorted(told))
            for numbers in (told[-1], told[-1] + 1, told[-1] + 7):
                other = replaced(one, 4, numbers)
                for gap, late_number in product(range(25), range(numbers)):
                    self.assertLess(len(meanings_of(other, road, 0, gap, late_number)), 2)


if __name__ == '__main__':
    unittest.main()
