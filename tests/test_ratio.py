import itertools
import math
import random
import unittest
from fractions import Fraction

from tests.helper import LAST, PATIENCE, assert_like_the_first_time, assert_plain, timed
from wholeamounts import desk


def ratio(*fractions):
    """The fractions are pairs."""
    return desk.ratio([number for fraction in fractions for number in fraction])


def least_by_trying(fractions):
    """The least whole numbers, found by trying one first number after the other."""
    values = [Fraction(*fraction) for fraction in fractions]
    for first in itertools.count(1):
        wholes = [value * first / values[0] for value in values]
        if all(whole.denominator == 1 for whole in wholes):
            return [int(whole) for whole in wholes]


class Ordinary(unittest.TestCase):
    def test_none(self):
        self.assertEqual(desk.ratio([]), [0, 0])

    def test_one(self):
        for fraction in ((1, 1), (3, 7), (LAST, 1), (1, LAST), (LAST, LAST), (12, 18)):
            self.assertEqual(ratio(fraction), [0, 1, 1])

    def test_several(self):
        self.assertEqual(ratio((1, 2), (1, 3)), [0, 2, 3, 2])
        self.assertEqual(ratio((1, 2), (1, 3), (1, 4)), [0, 3, 6, 4, 3])
        self.assertEqual(ratio((2, 1), (4, 1), (6, 1)), [0, 3, 1, 2, 3])
        self.assertEqual(ratio((2, 3), (4, 9)), [0, 2, 3, 2])

    def test_numbers_as_they_stand(self):
        self.assertEqual(desk.ratio([3, 4, 5, 6]), [0, 2, 9, 10])

    def test_not_in_lowest_terms(self):
        self.assertEqual(ratio((2, 4), (3, 9)), [0, 2, 3, 2])
        self.assertEqual(ratio((6, 4), (9, 6)), [0, 2, 1, 1])
        self.assertEqual(ratio((10, 10), (20, 10), (7, 7)), [0, 3, 1, 2, 1])

    def test_equal_ones(self):
        self.assertEqual(ratio(*[(5, 7)] * 6), [0, 6] + [1] * 6)
        self.assertEqual(ratio((5, 7), (10, 14), (5, 7)), [0, 3, 1, 1, 1])

    def test_order_is_kept(self):
        for row in itertools.permutations([(1, 2), (1, 3), (5, 1)]):
            wholes = [int(Fraction(*fraction) * 6) for fraction in row]
            self.assertEqual(ratio(*row), [0, 3] + wholes)

    def test_by_trying(self):
        source = random.Random(7)
        for _ in range(500):
            row = [(source.randint(1, 12), source.randint(1, 12)) for _ in range(source.randint(1, 4))]
            self.assertEqual(ratio(*row), [0, len(row)] + least_by_trying(row), row)


class Refusals(unittest.TestCase):
    def test_odd_count(self):
        for numbers in ([1], [0], [1, 2, 3], [1] * 199):
            self.assertEqual(desk.ratio(numbers), [-1])

    def test_numerator_nought(self):
        for fractions in ([(0, 1)], [(0, 5), (1, 1)], [(1, 1), (0, 5)], [(1, 1)] * 99 + [(0, LAST)]):
            self.assertEqual(ratio(*fractions), [-1])

    def test_denominator_nought(self):
        for fractions in ([(1, 0)], [(0, 0)], [(1, 0), (1, 1)], [(1, 1), (LAST, 0)], [(1, 1)] * 99 + [(1, 0)]):
            self.assertEqual(ratio(*fractions), [-1])

    def test_just_in_bounds_and_just_above(self):
        self.assertEqual(ratio((LAST, 1), (1, 1)), [0, 2, LAST, 1])
        self.assertEqual(ratio((1, 1), (1, LAST)), [0, 2, LAST, 1])
        # 2^64 is the product of 2^32 and 2^32; 2^64 - 1 of 2^32 - 1 and 2^32 + 1.
        self.assertEqual(ratio((2 ** 32 - 1, 1), (1, 2 ** 32 + 1)), [0, 2, LAST, 1])
        self.assertEqual(ratio((1, 2 ** 32 + 1), (2 ** 32 - 1, 1)), [0, 2, 1, LAST])
        self.assertEqual(ratio((2 ** 32, 1), (1, 2 ** 32)), [-6])
        self.assertEqual(ratio((1, 2 ** 32), (2 ** 32, 1)), [-6])
        self.assertEqual(ratio((2 ** 63, 1), (1, 2)), [-6])
        self.assertEqual(ratio((2 ** 63, 2), (1, 2)), [0, 2, 2 ** 63, 1])
        self.assertEqual(ratio((LAST, 1), (1, LAST)), [-6])

    def test_last_one_too_great(self):
        self.assertEqual(ratio((1, 3), (1, 1), (2 ** 63, 1)), [-6])

    def test_wrong_numbers_ahead_of_too_great(self):
        great = [LAST, 1, 1, LAST]
        self.assertEqual(desk.ratio(great), [-6])
        self.assertEqual(desk.ratio(great + [1]), [-1])
        self.assertEqual(desk.ratio(great + [0, 1]), [-1])
        self.assertEqual(desk.ratio(great + [1, 0]), [-1])
        self.assertEqual(desk.ratio([1, 0] + great), [-1])


class Promises(unittest.TestCase):
    def test_they_stand_as_the_fractions_without_a_common_divisor(self):
        source = random.Random(8)
        for _ in range(1000):
            most = source.choice((5, 100, 2 ** 16, 2 ** 20))
            row = [(source.randint(1, most), source.randint(1, most)) for _ in range(source.randint(2, 4))]
            answer = ratio(*row)
            if answer[0] == 0:
                wholes = answer[2:]
                self.assertEqual(len(wholes), len(row))
                for whole, fraction in zip(wholes, row):
                    self.assertEqual(Fraction(whole, wholes[0]), Fraction(*fraction) / Fraction(*row[0]))
                self.assertEqual(math.gcd(*wholes), 1)

    def test_ratio_of_a_ratio(self):
        source = random.Random(9)
        for _ in range(200):
            row = [(source.randint(1, 99), source.randint(1, 99)) for _ in range(source.randint(1, 5))]
            told = ratio(*row)
            self.assertEqual(ratio(*[(whole, 1) for whole in told[2:]]), told)


class Calling(unittest.TestCase):
    def test_greatest_inputs_soon(self):
        hundred = [(LAST - k, 1) for k in range(100)]
        for row, told in (
                (hundred, [0, 100] + [LAST - k for k in range(100)]),
                ([(1, LAST - k) for k in range(100)], [-6]),
                ([(LAST - k, LAST - 100 - k) for k in range(100)], [-6]),
                ([(LAST, LAST)] * 100, [0, 100] + [1] * 100),
                ([(LAST - 1, LAST)] * 99 + [(1, LAST)], [0, 100] + [LAST - 1] * 99 + [1])):
            answer, seconds = timed(ratio, *row)
            self.assertEqual(answer, told)
            self.assertLess(seconds, PATIENCE)

    def test_many_steps_to_a_common_divisor(self):
        # Neighbours in Fibonacci's row have the longest search for a common divisor.
        low, high = 1, 1
        while low + high <= LAST:
            low, high = high, low + high
        answer, seconds = timed(ratio, *[(high, low), (low, high)] * 50)
        self.assertEqual(answer, [-6])
        self.assertLess(seconds, PATIENCE)

    def test_kinds(self):
        for numbers in ([], [1, 2], [1], [1, 2, 3, 4], [LAST, 1, 1, LAST]):
            assert_plain(self, desk.ratio(numbers))

    def test_handed_in_stays_and_nothing_is_kept(self):
        rows = ([], [1, 2], [6, 4, 9, 6], [1], [0, 1], [1, 0], [LAST, 1, 1, LAST])
        assert_like_the_first_time(self, [(desk.ratio, list(row)) for row in rows])


if __name__ == "__main__":
    unittest.main()
