import random
import unittest
from fractions import Fraction

from tests.helper import (
    CARBON_DIOXIDE, FAULTY_MOLECULES, HYDROGEN, LAST, METHANE, NOTHING, OXYGEN, PATIENCE, WATER,
    assert_like_the_first_time, assert_plain, atom, equation_form, faulty, fractions_told, molecule_form,
    molecule_places, timed)
from wholeamounts import desk

BURNING = equation_form([HYDROGEN, OXYGEN], [WATER])
METHANE_BURNING = equation_form([METHANE, OXYGEN], [CARBON_DIOXIDE, WATER])


def equation_of(left, right):
    """Any equation with so many on the left and on the right."""
    return equation_form([WATER] * left, [WATER] * right)


def want_told(j, amount, left, numbers):
    """By the document's words, with Python's own fractions."""
    return fractions_told([number * amount / numbers[left + j] for number in numbers])


class Ordinary(unittest.TestCase):
    def test_numbers_as_they_stand(self):
        self.assertEqual(desk.want(0, 3, 1, BURNING, [2, 1, 2]), [0, 6, 3, 1, 3, 2, 3, 1])

    def test_each_on_the_right(self):
        numbers = [1, 2, 1, 2]
        self.assertEqual(desk.want(0, 1, 1, METHANE_BURNING, numbers), [0, 8, 1, 1, 2, 1, 1, 1, 2, 1])
        self.assertEqual(desk.want(1, 1, 1, METHANE_BURNING, numbers), [0, 8, 1, 2, 1, 1, 1, 2, 1, 1])
        numbers = list(range(1, 17))
        for j in range(8):
            told = want_told(j, Fraction(5, 7), 8, numbers)
            self.assertEqual(desk.want(j, 5, 7, equation_of(8, 8), numbers), told)

    def test_nothing_wanted(self):
        for denominator in (1, 7, LAST):
            self.assertEqual(desk.want(0, 0, denominator, BURNING, [2, 1, 2]), [0, 6, 0, 1, 0, 1, 0, 1])

    def test_lowest_terms(self):
        self.assertEqual(desk.want(0, 6, 4, BURNING, [2, 1, 2]), [0, 6, 3, 2, 3, 4, 3, 2])
        self.assertEqual(desk.want(0, 4, 6, BURNING, [4, 2, 4]), [0, 6, 2, 3, 1, 3, 2, 3])
        self.assertEqual(desk.want(0, LAST, LAST, BURNING, [2, 1, 2]), [0, 6, 1, 1, 1, 2, 1, 1])

    def test_numbers_that_do_not_balance(self):
        self.assertEqual(desk.want(0, 10, 1, BURNING, [1, 7, 5]), [0, 6, 2, 1, 14, 1, 10, 1])
        form = equation_form([NOTHING], [WATER])
        self.assertEqual(desk.want(0, 1, 3, form, [2, 3]), [0, 4, 2, 9, 1, 3])

    def test_as_by_the_words(self):
        source = random.Random(24)
        for _ in range(1000):
            left, right = source.randint(1, 8), source.randint(1, 8)
            most = source.choice((3, 10, 1000))
            numbers = [source.randint(1, most) for _ in range(left + right)]
            j = source.randrange(right)
            numerator, denominator = source.randint(0, most), source.randint(1, most)
            told = want_told(j, Fraction(numerator, denominator), left, numbers)
            self.assertEqual(desk.want(j, numerator, denominator, equation_of(left, right), numbers), told)


class Refusals(unittest.TestCase):
    def test_denominator_nought_ahead_of_the_form(self):
        for form in (BURNING, [], [1, 2, 3], BURNING + [1]):
            for numbers in ([2, 1, 2], [], [0]):
                self.assertEqual(desk.want(0, 1, 0, form, numbers), [-1])
                self.assertEqual(desk.want(LAST, 0, 0, form, numbers), [-1])

    def test_faulty_form_ahead_of_bad_numbers(self):
        for j, numbers in ((0, [2, 1, 2]), (9, [2, 1, 2]), (0, []), (LAST, [0])):
            self.assertEqual(desk.want(j, 1, 1, [], numbers), faulty(5, 0))
            self.assertEqual(desk.want(j, 1, 1, BURNING + [1], numbers), faulty(7, len(BURNING)))
            for bad, rule, place in FAULTY_MOLECULES:
                start = molecule_places([WATER, bad])[1]
                told = faulty(16 + rule, start + place)
                self.assertEqual(desk.want(j, 1, 1, equation_form([WATER], [bad]), numbers), told)

    def test_not_on_the_right(self):
        for right in range(1, 9):
            form = equation_of(8, right)
            numbers = [1] * (8 + right)
            self.assertEqual(desk.want(right - 1, 1, 1, form, numbers), [0, 2 * (8 + right)] + [1, 1] * (8 + right))
            for j in (right, right + 1, 8 + right, LAST):
                self.assertEqual(desk.want(j, 1, 1, form, numbers), [-1])

    def test_not_one_number_for_each(self):
        for numbers in ([], [2], [2, 1], [2, 1, 2, 1], [1] * 100):
            self.assertEqual(desk.want(0, 1, 1, BURNING, numbers), [-1])
            self.assertEqual(desk.want(1, 1, 1, BURNING, numbers), [-1])

    def test_a_number_nought(self):
        for numbers in ([0, 1, 2], [2, 0, 2], [2, 1, 0], [0, 0, 0]):
            self.assertEqual(desk.want(0, 1, 1, BURNING, numbers), [-1])
            self.assertEqual(desk.want(0, 0, 1, BURNING, numbers), [-1])

    def test_just_in_bounds_and_just_above(self):
        form = equation_of(1, 1)
        self.assertEqual(desk.want(0, 1, 1, form, [LAST, 1]), [0, 4, LAST, 1, 1, 1])
        self.assertEqual(desk.want(0, LAST, 1, form, [1, 1]), [0, 4, LAST, 1, LAST, 1])
        self.assertEqual(desk.want(0, 1, 1, form, [1, LAST]), [0, 4, 1, LAST, 1, 1])
        self.assertEqual(desk.want(0, 2 ** 63, 1, form, [2, 1]), [-6])
        self.assertEqual(desk.want(0, 2 ** 63, 1, form, [1, 1]), [0, 4, 2 ** 63, 1, 2 ** 63, 1])
        # A denominator: 2^64 - 1 is the product of 2^32 - 1 and 2^32 + 1.
        self.assertEqual(desk.want(0, 1, 2 ** 32 + 1, form, [1, 2 ** 32 - 1]), [0, 4, 1, LAST, 1, 2 ** 32 + 1])
        self.assertEqual(desk.want(0, 1, 2 ** 32, form, [1, 2 ** 32]), [-6])
        # Only what's told counts, in lowest terms.
        self.assertEqual(desk.want(0, LAST, LAST, form, [LAST, LAST]), [0, 4, 1, 1, 1, 1])

    def test_order(self):
        form = equation_of(1, 1)
        self.assertEqual(desk.want(0, LAST, 1, form, [LAST, 1]), [-6])
        self.assertEqual(desk.want(1, LAST, 1, form, [LAST, 1]), [-1])
        self.assertEqual(desk.want(0, LAST, 1, form, [LAST, 1, 1]), [-1])
        self.assertEqual(desk.want(0, LAST, 0, form, [LAST, 1]), [-1])


class Calling(unittest.TestCase):
    def test_greatest_inputs_soon(self):
        large = molecule_form([atom(118, 500, 4, 7)] * 128, [(k, k + 1, 3) for k in range(127)])
        form = equation_form([large] * 8, [large] * 8)
        for j, numerator, denominator, numbers, told in (
                (7, LAST, LAST, [LAST] * 16, [0, 32] + [1, 1] * 16),
                (7, LAST, LAST - 1, [LAST - k for k in range(16)], [-6]),
                (LAST, LAST, LAST, [1] * 100, [-1])):
            answer, seconds = timed(desk.want, j, numerator, denominator, form, numbers)
            self.assertEqual(answer, told)
            self.assertLess(seconds, PATIENCE)

    def test_kinds(self):
        for numerator, denominator in ((1, 1), (0, 1), (1, 0)):
            assert_plain(self, desk.want(0, numerator, denominator, BURNING, [2, 1, 2]))

    def test_handed_in_stays_and_nothing_is_kept(self):
        calls = []
        for form in (BURNING, METHANE_BURNING, [], BURNING + [1]):
            for numbers in ([2, 1, 2], [1, 2, 1, 2], [1, 0, 1], []):
                calls += [(desk.want, j, 3, denominator, form, numbers) for j in (0, 1, 5) for denominator in (0, 6)]
        assert_like_the_first_time(self, calls)


if __name__ == "__main__":
    unittest.main()
