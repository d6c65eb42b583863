import random
import unittest
from fractions import Fraction

from tests.helper import (
    CARBON_DIOXIDE, FAULTY_MOLECULES, HYDROGEN, LAST, METHANE, NOTHING, OXYGEN, PATIENCE, WATER,
    assert_like_the_first_time, assert_plain, atom, equation_form, faulty, flat, fractions_told, molecule_form,
    molecule_places, timed)
from wholeamounts import desk

BURNING = equation_form([HYDROGEN, OXYGEN], [WATER])
METHANE_BURNING = equation_form([METHANE, OXYGEN], [CARBON_DIOXIDE, WATER])


def equation_of(left, right):
    """Any equation with so many on the left and on the right."""
    return equation_form([WATER] * left, [WATER] * right)


def most(form, numbers, *amounts):
    """The amounts are pairs."""
    return desk.most(form, list(numbers), flat(amounts))


def most_told(left, numbers, amounts):
    """By the document's words, with Python's own fractions."""
    amounts = [Fraction(*amount) for amount in amounts]
    reaches = [amount / number for amount, number in zip(amounts, numbers)]
    far = min(reaches)
    row = [far, Fraction(reaches.index(far))]
    row += [amount - number * far for amount, number in zip(amounts, numbers)]
    row += [number * far for number in numbers[left:]]
    return fractions_told(row)


class Ordinary(unittest.TestCase):
    def test_numbers_as_they_stand(self):
        told = [0, 10, 3, 2, 0, 1, 0, 1, 1, 2, 3, 1]
        self.assertEqual(desk.most(BURNING, [2, 1, 2], [3, 1, 2, 1]), told)

    def test_first_runs_out(self):
        self.assertEqual(most(BURNING, (2, 1, 2), (1, 1), (5, 1)), [0, 10, 1, 2, 0, 1, 0, 1, 9, 2, 1, 1])

    def test_second_runs_out(self):
        self.assertEqual(most(BURNING, (2, 1, 2), (5, 1), (1, 1)), [0, 10, 1, 1, 1, 1, 3, 1, 0, 1, 2, 1])

    def test_several_run_out_at_once(self):
        self.assertEqual(most(BURNING, (2, 1, 2), (4, 1), (2, 1)), [0, 10, 2, 1, 0, 1, 0, 1, 0, 1, 4, 1])
        form = equation_of(3, 1)
        self.assertEqual(most(form, (1, 2, 3, 1), (5, 1), (4, 1), (6, 1)),
                         [0, 12, 2, 1, 1, 1, 3, 1, 0, 1, 0, 1, 2, 1])
        self.assertEqual(most(form, (1, 2, 3, 1), (2, 1), (4, 1), (6, 1))[4:6], [0, 1])
        self.assertEqual(most(form, (1, 2, 3, 1), (3, 1), (5, 1), (6, 1))[4:6], [2, 1])

    def test_equal_ones_written_otherwise(self):
        self.assertEqual(most(equation_of(2, 1), (1, 1, 1), (2, 4), (1, 2)), [0, 10, 1, 2, 0, 1, 0, 1, 0, 1, 1, 2])
        self.assertEqual(most(equation_of(2, 1), (1, 1, 1), (7, 7), (7, 7)), [0, 10, 1, 1, 0, 1, 0, 1, 0, 1, 1, 1])

    def test_amount_nought(self):
        self.assertEqual(most(BURNING, (2, 1, 2), (0, 1), (5, 3)), [0, 10, 0, 1, 0, 1, 0, 1, 5, 3, 0, 1])
        self.assertEqual(most(BURNING, (2, 1, 2), (5, 3), (0, 7)), [0, 10, 0, 1, 1, 1, 5, 3, 0, 1, 0, 1])
        self.assertEqual(most(BURNING, (2, 1, 2), (0, LAST), (0, 1)), [0, 10, 0, 1, 0, 1, 0, 1, 0, 1, 0, 1])

    def test_lowest_terms(self):
        self.assertEqual(most(BURNING, (2, 1, 2), (6, 4), (10, 20)), [0, 10, 1, 2, 1, 1, 1, 2, 0, 1, 1, 1])
        self.assertEqual(most(equation_of(1, 1), (6, 4), (9, 6)), [0, 8, 1, 4, 0, 1, 0, 1, 1, 1])

    def test_several_on_the_right(self):
        told = [0, 12, 1, 4, 1, 1, 3, 4, 0, 1, 1, 4, 1, 2]
        self.assertEqual(most(METHANE_BURNING, (1, 2, 1, 2), (1, 1), (1, 2)), told)

    def test_numbers_that_do_not_balance(self):
        self.assertEqual(desk.kept(BURNING, [1, 1, 5])[1], 0)
        self.assertEqual(most(BURNING, (1, 1, 5), (3, 1), (2, 1)), [0, 10, 2, 1, 1, 1, 1, 1, 0, 1, 10, 1])

    def test_equation_that_can_not_be_balanced(self):
        form = equation_form([WATER, NOTHING], [OXYGEN])
        self.assertEqual(most(form, (1, 2, 3), (1, 1), (1, 1)), [0, 10, 1, 2, 1, 1, 1, 2, 0, 1, 3, 2])

    def test_as_by_the_words(self):
        source = random.Random(22)
        for _ in range(1500):
            left, right = source.randint(1, 8), source.randint(1, 8)
            greatest = source.choice((3, 10, 1000))
            numbers = [source.randint(1, greatest) for _ in range(left + right)]
            amounts = [(source.randint(0, greatest), source.randint(1, greatest)) for _ in range(left)]
            self.assertEqual(most(equation_of(left, right), numbers, *amounts), most_told(left, numbers, amounts))


class Refusals(unittest.TestCase):
    def test_not_one_number_for_each(self):
        for numbers in ([], [2], [2, 1], [2, 1, 2, 1], [1] * 100):
            self.assertEqual(most(BURNING, numbers, (1, 1), (1, 1)), [-1])

    def test_a_number_nought(self):
        for numbers in ([0, 1, 2], [2, 0, 2], [2, 1, 0]):
            self.assertEqual(most(BURNING, numbers, (1, 1), (1, 1)), [-1])

    def test_not_two_numbers_for_each_on_the_left(self):
        for fractions in ([], [1], [1, 1], [1, 1, 1], [1, 1, 1, 1, 1], [1] * 6, [1] * 200):
            self.assertEqual(desk.most(BURNING, [2, 1, 2], fractions), [-1])
        # As many as there are molecules in all, or on the right.
        self.assertEqual(desk.most(equation_of(1, 3), [1] * 4, [1] * 8), [-1])
        self.assertEqual(desk.most(equation_of(1, 3), [1] * 4, [1] * 6), [-1])

    def test_denominator_nought(self):
        for amounts in (((1, 0), (1, 1)), ((1, 1), (1, 0)), ((0, 0), (1, 1)), ((1, 1), (0, 0))):
            self.assertEqual(most(BURNING, (2, 1, 2), *amounts), [-1])

    def test_just_in_bounds_and_just_above(self):
        form = equation_of(1, 1)
        self.assertEqual(most(form, (1, LAST), (1, 1)), [0, 8, 1, 1, 0, 1, 0, 1, LAST, 1])
        self.assertEqual(most(form, (1, 2 ** 63), (2, 1)), [-6])
        self.assertEqual(most(form, (1, 2 ** 63), (1, 1)), [0, 8, 1, 1, 0, 1, 0, 1, 2 ** 63, 1])
        # A denominator: 2^64 - 1 is the product of 2^32 - 1 and 2^32 + 1.
        self.assertEqual(most(form, (2 ** 32 - 1, 1), (1, 2 ** 32 + 1)), [0, 8, 1, LAST, 0, 1, 0, 1, 1, LAST])
        self.assertEqual(most(form, (2 ** 32, 2 ** 32), (1, 2 ** 32)), [-6])
        # Only what's told counts, in lowest terms.
        self.assertEqual(most(form, (LAST, LAST), (LAST, LAST)), [0, 8, 1, LAST, 0, 1, 0, 1, 1, 1])

    def test_only_what_is_left_is_too_great(self):
        form = equation_of(2, 1)
        self.assertEqual(most(form, (1, 1, 1), (1, 2 ** 32 + 1), (1, 2 ** 32 - 1)),
                         [0, 10, 1, 2 ** 32 + 1, 0, 1, 0, 1, 2, LAST, 1, 2 ** 32 + 1])
        self.assertEqual(most(form, (1, 1, 1), (1, 2 ** 32 + 1), (1, 2 ** 32)), [-6])
        self.assertEqual(most(form, (1, 1, 1), (1, 2 ** 40), (1, 2 ** 40 - 1)), [-6])
        self.assertEqual(most(form, (1, 1, 1), (1, 3), (LAST, 1)), [-6])
        self.assertEqual(most(form, (1, 1, 1), (1, 1), (LAST, 1)), [0, 10, 1, 1, 0, 1, 0, 1, LAST - 1, 1, 1, 1])

    def test_order(self):
        great = [1, 2 ** 40, 1, 2 ** 40 - 1]
        form = equation_of(2, 1)
        self.assertEqual(desk.most(form, [1, 1, 1], great), [-6])
        self.assertEqual(desk.most(form, [1, 1, 0], great), [-1])
        self.assertEqual(desk.most(form, [1, 1], great), [-1])
        self.assertEqual(desk.most(form, [1, 1, 1], great + [1]), [-1])
        self.assertEqual(desk.most(form, [1, 1, 1], great + [1, 1]), [-1])
        for numbers, fractions in (([], []), ([0], [1, 0]), ([1, 1, 1], great)):
            self.assertEqual(desk.most(form + [0], numbers, fractions), faulty(7, len(form)))
            self.assertEqual(desk.most([], numbers, fractions), faulty(5, 0))
            for bad, rule, place in FAULTY_MOLECULES:
                start = molecule_places([WATER, bad])[1]
                told = faulty(16 + rule, start + place)
                self.assertEqual(desk.most(equation_form([WATER], [bad]), numbers, fractions), told)


class Promises(unittest.TestCase):
    def test_used_and_left_are_what_there_was(self):
        source = random.Random(23)
        for _ in range(500):
            left, right = source.randint(1, 4), source.randint(1, 4)
            numbers = [source.randint(1, 20) for _ in range(left + right)]
            amounts = [(source.randint(0, 30), source.randint(1, 30)) for _ in range(left)]
            answer = most(equation_of(left, right), numbers, *amounts)
            self.assertEqual(answer[:2], [0, 2 * (2 + left + right)])
            told = [Fraction(*answer[k:k + 2]) for k in range(2, len(answer), 2)]
            far, out, rest = told[0], int(told[1]), told[2:2 + left]
            self.assertEqual(rest[out], 0)
            self.assertNotIn(0, rest[:out])
            self.assertGreaterEqual(min(rest), 0)
            for amount, number, remaining in zip(amounts, numbers, rest):
                self.assertEqual(number * far + remaining, Fraction(*amount))
            self.assertEqual(told[2 + left:], [number * far for number in numbers[left:]])


class Calling(unittest.TestCase):
    def test_greatest_inputs_soon(self):
        bonds = [(k, k + 1, 3) for k in range(127)]
        large = molecule_form([atom(118, 500, 4, 7)] * 128, bonds)
        form = equation_form([large] * 8, [large] * 8)
        for numbers, fractions, told in (
                ([LAST] * 16, [LAST] * 16, [0, 36, 1, LAST, 0, 1] + [0, 1] * 8 + [1, 1] * 8),
                ([LAST - k for k in range(16)], [LAST - 5 * k for k in range(16)], [-6]),
                ([1] * 100, [1] * 200, [-1])):
            answer, seconds = timed(desk.most, form, numbers, fractions)
            self.assertEqual(answer, told)
            self.assertLess(seconds, PATIENCE)

    def test_kinds(self):
        assert_plain(self, most(BURNING, (2, 1, 2), (3, 1), (2, 1)))
        assert_plain(self, most(BURNING, (2, 1, 2), (0, 1), (0, 1)))
        assert_plain(self, most(BURNING, (2, 1), (3, 1), (2, 1)))

    def test_handed_in_stays_and_nothing_is_kept(self):
        calls = []
        for form in (BURNING, METHANE_BURNING, [], BURNING + [1]):
            for numbers in ([2, 1, 2], [1, 2, 1, 2], [1, 0, 1], []):
                for fractions in ([3, 1, 2, 1], [6, 4, 9, 6], [1, 0], []):
                    calls.append((desk.most, form, numbers, fractions))
        assert_like_the_first_time(self, calls)


if __name__ == "__main__":
    unittest.main()
