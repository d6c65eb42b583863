import itertools
import math
import random
import unittest
from unittest import mock

from tests.helper import (
    CARBON, CARBON_DIOXIDE, CARBON_MONOXIDE, FAULTY_MOLECULES, HYDROGEN, METHANE, NOTHING, OXYGEN, PATIENCE,
    PERMANGANATE, WATER, are_balanced, assert_like_the_first_time, assert_plain, atom, drawn_molecule, drawn_sides,
    equation_form, faulty, ion, least_by_trying, molecule_form, molecule_of, molecule_places, timed)
from wholeamounts import desk

H, C, N, O = (1, 0), (6, 0), (7, 0), (8, 0)
HEAVY_CARBON = molecule_form([atom(6, 13)])
HEAVY_DIOXIDE = molecule_form([atom(8), atom(6, 13), atom(8)], [(0, 1, 2), (1, 2, 2)])
WITH_CHARGES = ([PERMANGANATE, ion(26, 2), ion(1, 1)], [ion(25, 2), ion(26, 3), WATER])


def least(left, right):
    return desk.least(equation_form(left, right))


def hydrogens(count, charge):
    """So many units of hydrogen, of which 6 at most are atoms, with a charge."""
    atoms = min(6, count)
    return molecule_of({H: atoms}, count - atoms, charge)


class OneWay(unittest.TestCase):
    def test_bytes_as_they_stand(self):
        form = [70, 75, 81, 49, 1, 1, 12, 0, 70, 75, 77, 49, 1, 0, 8, 0, 0, 4, 0, 0,
                18, 0, 70, 75, 77, 49, 2, 0, 8, 0, 0, 4, 0, 0, 8, 0, 0, 4, 0, 0]
        self.assertEqual(desk.least(form), [0, 2, 2, 1])

    def test_burning(self):
        self.assertEqual(least([HYDROGEN, OXYGEN], [WATER]), [0, 3, 2, 1, 2])
        self.assertEqual(least([METHANE, OXYGEN], [CARBON_DIOXIDE, WATER]), [0, 4, 1, 2, 1, 2])
        ethane = molecule_form([atom(6, hydrogens=3)] * 2, [(0, 1, 1)])
        self.assertEqual(least([ethane, OXYGEN], [CARBON_DIOXIDE, WATER]), [0, 4, 2, 7, 4, 6])

    def test_same_molecule_on_both_sides(self):
        self.assertEqual(least([WATER], [WATER]), [0, 2, 1, 1])
        self.assertEqual(least([HYDROGEN, OXYGEN], [HYDROGEN, OXYGEN]), [0, 4, 1, 1, 1, 1])
        self.assertEqual(least([PERMANGANATE], [PERMANGANATE]), [0, 2, 1, 1])

    def test_charges(self):
        self.assertEqual(least(*WITH_CHARGES), [0, 6, 1, 5, 8, 1, 5, 4])
        self.assertEqual(least([ion(26, 3), ion(50, 2)], [ion(26, 2), ion(50, 4)]), [0, 4, 2, 1, 2, 1])
        self.assertEqual(least([ion(13, 3), ion(8, -2)], [molecule_form([atom(13)] * 2 + [atom(8)] * 3)]),
                         [0, 3, 2, 3, 1])

    def test_isotopes(self):
        self.assertEqual(least([HEAVY_CARBON, CARBON_DIOXIDE], [CARBON, HEAVY_DIOXIDE]), [0, 4, 1, 1, 1, 1])
        self.assertEqual(least([HEAVY_CARBON, OXYGEN], [HEAVY_DIOXIDE]), [0, 3, 1, 1, 1])

    def test_common_divisor_is_taken_out(self):
        for one, other in itertools.product(range(1, 7), repeat=2):
            divisor = math.gcd(one, other)
            left = molecule_form([atom(6)] * one)
            right = molecule_form([atom(6)] * other)
            self.assertEqual(least([left], [right]), [0, 2, other // divisor, one // divisor])


class SeveralWays(unittest.TestCase):
    def test_least_sum(self):
        self.assertEqual(least([CARBON, OXYGEN], [CARBON_MONOXIDE, CARBON_DIOXIDE]), [0, 4, 3, 2, 2, 1])
        sides = [METHANE, OXYGEN], [CARBON_MONOXIDE, CARBON_DIOXIDE, WATER]
        self.assertEqual(least(*sides), [0, 5, *least_by_trying(*sides, 20)])

    def test_of_one_sum_the_first_row(self):
        self.assertEqual(least([WATER, WATER], [WATER, WATER, WATER]), [0, 5, 1, 2, 1, 1, 1])
        self.assertEqual(least([WATER, WATER, WATER], [WATER, WATER]), [0, 5, 1, 1, 1, 1, 2])
        three = molecule_form([atom(6)] * 3)
        six = molecule_form([atom(6)] * 6)
        self.assertEqual(least([CARBON, CARBON, CARBON], [six]), [0, 4, 1, 1, 4, 1])
        self.assertEqual(least([six], [CARBON, CARBON, CARBON]), [0, 4, 1, 1, 1, 4])
        self.assertEqual(least([CARBON, three], [CARBON, three]), [0, 4, 1, 1, 1, 1])

    def test_sum_ahead_of_row(self):
        # The first number could be 1, but the sum would be greater.
        two = molecule_form([atom(6)] * 2)
        five = molecule_form([atom(6)] * 5)
        sides = [two, CARBON], [five]
        self.assertEqual(least(*sides), [0, 3, 2, 1, 1])
        self.assertTrue(are_balanced(*sides, [1, 3, 1]))

    def test_molecules_without_atoms(self):
        self.assertEqual(least([NOTHING], [NOTHING]), [0, 2, 1, 1])
        self.assertEqual(least([NOTHING] * 3, [NOTHING] * 3), [0, 6, 1, 1, 1, 1, 1, 1])
        self.assertEqual(least([NOTHING, HYDROGEN, OXYGEN], [WATER, NOTHING]), [0, 5, 1, 2, 1, 2, 1])

    def test_all_ones_though_ways_are_large(self):
        left = [molecule_of({(6, 0): 6}, 41), molecule_of({(6, 0): 5}, 30), molecule_of({(6, 0): 1}, 2)]
        right = [molecule_of({(6, 0): 4}, 23), molecule_of({(6, 0): 6}, 37), molecule_of({(6, 0): 2}, 13)]
        self.assertEqual(least(left, right), [0, 6, 1, 1, 1, 1, 1, 1])


class NoWay(unittest.TestCase):
    def test_element_on_one_side_alone(self):
        self.assertEqual(least([WATER], [OXYGEN]), [-2])
        self.assertEqual(least([OXYGEN], [WATER]), [-2])
        self.assertEqual(least([NOTHING], [WATER]), [-2])
        self.assertEqual(least([WATER, NOTHING], [NOTHING]), [-2])
        self.assertEqual(least([METHANE, OXYGEN], [CARBON_DIOXIDE]), [-2])

    def test_isotope_on_one_side_alone(self):
        self.assertEqual(least([HEAVY_CARBON], [CARBON]), [-2])
        self.assertEqual(least([HEAVY_CARBON, OXYGEN], [CARBON_DIOXIDE]), [-2])

    def test_charges(self):
        self.assertEqual(least([ion(26, 3)], [ion(26, 2)]), [-2])
        self.assertEqual(least([ion(26, 3), ion(26, 2)], [ion(26, 4)]), [-2])
        self.assertEqual(least([ion(1, 1), ion(8, -2)], [WATER]), [0, 3, 2, 1, 1])
        self.assertEqual(least([ion(1, 1), ion(8, -1)], [WATER]), [-2])

    def test_elements_that_are_on_both_sides(self):
        # Two molecules of which neither can be made of the other.
        self.assertEqual(least([CARBON_MONOXIDE], [CARBON_DIOXIDE]), [-2])
        self.assertEqual(least([METHANE], [molecule_form([atom(6, hydrogens=3)] * 2)]), [-2])

    def test_a_number_would_be_nought_or_less(self):
        # Water would be wanted on the left, not on the right.
        self.assertEqual(least([HYDROGEN], [HYDROGEN, WATER]), [-2])
        self.assertEqual(least([CARBON, OXYGEN, WATER], [CARBON_DIOXIDE]), [-2])
        self.assertEqual(least([OXYGEN, CARBON_DIOXIDE], [CARBON, CARBON_MONOXIDE]), [-2])
        self.assertEqual(least([OXYGEN, CARBON_MONOXIDE], [CARBON, CARBON_DIOXIDE]), [0, 4, 1, 4, 1, 3])


class ByTrying(unittest.TestCase):
    """Compared with all rows of a small sum, gone through one by one."""

    MOST = {2: 60, 3: 34, 4: 20, 5: 16, 6: 14}

    def compare(self, seed, count, *measures):
        source = random.Random(seed)
        seen = {0: 0, -2: 0}
        for _ in range(count):
            left, right = drawn_sides(source, *measures)
            most = self.MOST[len(left + right)]
            answer = least(left, right)
            seen[answer[0]] += 1
            tried = least_by_trying(left, right, most)
            if tried is not None:
                self.assertEqual(answer, [0, len(tried)] + tried, (left, right))
            elif answer != [-2]:
                self.assertTrue(are_balanced(left, right, answer[2:]))
                self.assertGreater(sum(answer[2:]), most)
        self.assertGreater(min(seen.values()), count // 25)

    def test_one_element(self):
        self.compare(12, 150, [(1, 0)], 4, 7, 0)

    def test_one_element_and_charges(self):
        self.compare(13, 150, [(1, 0)], 3, 1, 2)

    def test_two_elements(self):
        self.compare(14, 150, [(6, 0), (8, 0)], 3, 0, 0)

    def test_an_element_and_hydrogens(self):
        self.compare(15, 150, [(6, 0)], 3, 2, 0)

    def test_isotopes_and_charges(self):
        self.compare(16, 200, [(6, 0), (6, 13)], 2, 0, 1)


class LargeNumbers(unittest.TestCase):
    """As far as 3 and 3 molecules of at most 6 atoms go: their numbers stay far below 2^32."""

    def soon(self, left, right, told):
        form = equation_form(left, right)
        self.assertLessEqual(len(form), 300)
        answer, seconds = timed(desk.least, form)
        self.assertEqual(answer, [0, 6] + told)
        self.assertLess(seconds, PATIENCE)
        self.assertTrue(are_balanced(left, right, told))

    def test_one_way(self):
        self.soon([molecule_of({C: 6}, 1, -5), molecule_of({N: 6}, 42, -24), molecule_of({N: 1, O: 3, H: 2}, 42, 24)],
                  [molecule_of({C: 5, H: 1}, 42, -16), molecule_of({O: 6}, 11, -20),
                   molecule_of({C: 1, N: 4, O: 1}, 0, 24)],
                  [526728, 230147, 325590, 546750, 91692, 426618])
        self.soon([molecule_of({C: 6}, 42, 23), molecule_of({N: 1}, 0, -4), molecule_of({O: 6}, 1, 24)],
                  [molecule_of({N: 6}, 42, 24), molecule_of({O: 5, H: 1}, 42, -24), molecule_of({N: 5, C: 1}, 0, -24)],
                  [23232, 834834, 210, 22979, 252, 139392])

    def test_several_ways(self):
        self.soon([molecule_of({O: 6}, 0, 24), molecule_of({O: 6}, 0, 24), molecule_of({C: 1, H: 1}, 7, 2)],
                  [molecule_of({O: 1, H: 5}, 42, -24), molecule_of({C: 2, H: 4}, 32, 23), molecule_of({C: 5}, 21, -8)],
                  [1, 1, 120252, 12, 16536, 17436])
        self.soon([molecule_of({H: 6}, 42, -24), molecule_of({C: 5}, 24, 3), molecule_of({H: 6}, 42, -24)],
                  [molecule_of({C: 5, H: 1}, 0, 24), molecule_of({C: 1, H: 5}, 41, 24), molecule_of({C: 3}, 13, 1)],
                  [1, 17075, 1, 1, 959, 28137])

    def test_many_rows_of_one_sum(self):
        # Three that are alike: they can share their number in millions of ways, of which the first row is told.
        alike = molecule_of({C: 1}, 6, -3)
        self.soon([alike, alike, alike],
                  [molecule_of({C: 6}, 5, -24), molecule_of({H: 6}, 42, -13), molecule_of({C: 5, H: 1}, 37, 20)],
                  [1, 1, 14157, 1784, 1037, 691])

    def test_more_to_try(self):
        for left, right, told in (
                ([(3, -2), (29, 1), (13, 4)], [(37, 17), (30, 19), (24, -8)], [4, 7, 2, 1, 2, 6]),
                ([(16, 17), (33, -9), (4, -7)], [(30, -2), (9, 6), (14, -5)], [2, 5, 1, 3, 3, 6])):
            left, right = ([hydrogens(*measures) for measures in side] for side in (left, right))
            self.soon(left, right, told)
            self.assertEqual(least_by_trying(left, right, 24), told)

    def test_drawn_ones_are_balanced_and_soon(self):
        source = random.Random(17)
        slowest = 0
        for _ in range(400):
            kinds = source.choice(([H], [C], [C, O], [C, N, O]))
            left, right = ([drawn_molecule(source, kinds, 6, 7, 4) for _ in range(3)] for _ in range(2))
            answer, seconds = timed(least, left, right)
            slowest = max(slowest, seconds)
            if answer[0] == 0:
                self.assertTrue(are_balanced(left, right, answer[2:]))
                self.assertEqual(math.gcd(*answer[2:]), 1)
        self.assertLess(slowest, PATIENCE)


class TooGreat(unittest.TestCase):
    def chain(self, *factors):
        """Of each molecule there must be so many times as many as of the one before as the factors say.

        They stand on the left and on the right in turn. The first factor is that of hydrogens, so it can be large;
        such molecules have more atoms than least must take.
        """
        units = [H, C, N, O, (9, 0)]
        molecules = [molecule_of({H: 32}, factors[0] - 32)]
        for k in range(1, 5):
            molecules.append(molecule_of({units[k - 1]: 1, units[k]: factors[k]}))
        molecules.append(molecule_of({units[4]: 1}))
        return least(molecules[::2], molecules[1::2])

    def test_above_the_bound(self):
        # 2^32 is the product of 256 and of 64 four times.
        self.assertEqual(self.chain(256, 64, 64, 64, 64), [-6])
        self.assertEqual(self.chain(256, 100, 100, 100, 100), [-6])
        self.assertEqual(self.chain(255, 64, 64, 64, 64),
                         [0, 6, 1, 255 * 64, 255 * 64 ** 3, 255, 255 * 64 ** 2, 255 * 64 ** 4])

    def test_bound(self):
        self.assertEqual(desk.MOST_LEAST, 2 ** 32 - 1)
        form = equation_form([CARBON], [molecule_of({C: 6})])
        for most, told in ((6, [0, 2, 6, 1]), (5, [-6])):
            with mock.patch.object(desk, "MOST_LEAST", most):
                self.assertEqual(desk.least(form), told)


class Refusals(unittest.TestCase):
    def test_faulty_forms(self):
        good = equation_form([HYDROGEN, OXYGEN], [WATER])
        self.assertEqual(desk.least([]), faulty(5, 0))
        self.assertEqual(desk.least(good + [1]), faulty(7, len(good)))
        self.assertEqual(desk.least(good[:-1]), faulty(5, len(good) - 1))
        self.assertEqual(desk.least(good[:5] + [0]), faulty(2, 5))
        for bad, rule, place in FAULTY_MOLECULES:
            start = molecule_places([WATER, bad])[1]
            # Water alone on the left could not be balanced.
            self.assertEqual(least([WATER], [bad]), faulty(16 + rule, start + place))


class Promises(unittest.TestCase):
    SIDES = [([HYDROGEN, OXYGEN], [WATER]), ([CARBON, OXYGEN], [CARBON_MONOXIDE, CARBON_DIOXIDE]), WITH_CHARGES,
             ([WATER, WATER], [WATER, WATER, WATER]), ([NOTHING], [NOTHING])]

    def test_kept_tells_them_balanced(self):
        for sides in self.SIDES:
            form = equation_form(*sides)
            numbers = desk.least(form)[2:]
            for times in (1, 2, 1000):
                self.assertEqual(desk.kept(form, [times * number for number in numbers]), [0, 1, 0, 0])

    def test_no_common_divisor(self):
        for sides in self.SIDES:
            self.assertEqual(math.gcd(*least(*sides)[2:]), 1)

    def test_drawn_in_another_way(self):
        drawn = molecule_form([atom(1), atom(8), atom(1)], [(0, 1, 1), (1, 2, 1)])
        self.assertEqual(least([HYDROGEN, OXYGEN], [drawn]), least([HYDROGEN, OXYGEN], [WATER]))

    def test_sides_exchanged(self):
        self.assertEqual(least([WATER], [HYDROGEN, OXYGEN]), [0, 3, 2, 2, 1])


class Calling(unittest.TestCase):
    def test_kinds(self):
        for sides in (([HYDROGEN, OXYGEN], [WATER]), ([WATER], [OXYGEN]), ([WATER], [[]])):
            assert_plain(self, least(*sides))

    def test_handed_in_stays_and_nothing_is_kept(self):
        forms = [equation_form(*sides) for sides in Promises.SIDES]
        forms += [[], equation_form([WATER], [OXYGEN]), equation_form([WATER], [[]])]
        assert_like_the_first_time(self, [(desk.least, form) for form in forms])


if __name__ == "__main__":
    unittest.main()
