import random
import unittest

from tests.helper import (
    CARBON, CARBON_DIOXIDE, CARBON_MONOXIDE, FAULTY_MOLECULES, HYDROGEN, METHANE, NOTHING, OXYGEN, PATIENCE,
    PERMANGANATE, WATER, are_balanced, assert_like_the_first_time, assert_plain, atom, drawn_sides, equation_form,
    faulty, ion, molecule_form, molecule_of, molecule_places, rows_of_sum, timed)
from wholeamounts import desk

WITH_CHARGES = ([PERMANGANATE, ion(26, 2), ion(1, 1)], [ion(25, 2), ion(26, 3), WATER])
HEAVY_CARBON = molecule_form([atom(6, 13)])


def only(left, right):
    return desk.only(equation_form(left, right))


def is_multiple(numbers, other):
    return numbers[0] % other[0] == 0 and numbers == [numbers[0] // other[0] * number for number in other]


class Ordinary(unittest.TestCase):
    def test_bytes_as_they_stand(self):
        form = [70, 75, 81, 49, 1, 1, 6, 0, 70, 75, 77, 49, 0, 0, 6, 0, 70, 75, 77, 49, 0, 0]
        self.assertEqual(desk.only(form), [0, 0])

    def test_one_way(self):
        for sides in (([HYDROGEN, OXYGEN], [WATER]), ([METHANE, OXYGEN], [CARBON_DIOXIDE, WATER]), WITH_CHARGES,
                      ([WATER], [WATER]), ([CARBON], [molecule_of({(6, 0): 6})]),
                      ([HEAVY_CARBON, OXYGEN], [molecule_form([atom(8), atom(6, 13), atom(8)])])):
            self.assertEqual(only(*sides), [0, 1])

    def test_several_ways(self):
        for sides in (([CARBON, OXYGEN], [CARBON_MONOXIDE, CARBON_DIOXIDE]), ([WATER, WATER], [WATER]),
                      ([HYDROGEN, OXYGEN], [HYDROGEN, OXYGEN]), ([WATER], [WATER, WATER, WATER]),
                      ([METHANE, OXYGEN], [CARBON_MONOXIDE, CARBON_DIOXIDE, WATER])):
            self.assertEqual(only(*sides), [0, 0])

    def test_no_way(self):
        for sides in (([WATER], [OXYGEN]), ([HEAVY_CARBON], [CARBON]), ([ion(26, 3)], [ion(26, 2)]),
                      ([CARBON_MONOXIDE], [CARBON_DIOXIDE]), ([HYDROGEN], [HYDROGEN, WATER]), ([NOTHING], [WATER]),
                      ([HYDROGEN, HYDROGEN], [HYDROGEN, OXYGEN]), ([CARBON, OXYGEN, WATER], [CARBON_DIOXIDE])):
            self.assertEqual(only(*sides), [-2])
            self.assertEqual(desk.least(equation_form(*sides)), [-2])

    def test_molecules_without_atoms(self):
        self.assertEqual(only([NOTHING], [NOTHING]), [0, 0])
        self.assertEqual(only([NOTHING] * 3, [NOTHING] * 3), [0, 0])
        self.assertEqual(only([NOTHING, WATER], [WATER]), [0, 0])
        self.assertEqual(only([NOTHING], [WATER, NOTHING]), [-2])

    def test_others_than_multiples_of_the_least(self):
        for left, right, other in (
                ([CARBON, OXYGEN], [CARBON_MONOXIDE, CARBON_DIOXIDE], [4, 3, 2, 2]),
                ([WATER, WATER], [WATER], [1, 2, 3]),
                ([NOTHING], [NOTHING], [1, 2])):
            form = equation_form(left, right)
            self.assertEqual(desk.kept(form, other), [0, 1, 0, 0])
            self.assertFalse(is_multiple(other, desk.least(form)[2:]))
            self.assertEqual(desk.only(form), [0, 0])

    def test_charges_and_isotopes_leave_one_way(self):
        # Without its charges there would be several ways.
        left, right = [ion(26, 3), ion(50, 2)], [ion(26, 2), ion(50, 4)]
        self.assertEqual(only(left, right), [0, 1])
        self.assertEqual(only([ion(26, 0), ion(50, 0)], [ion(26, 0), ion(50, 0)]), [0, 0])
        left, right = [HEAVY_CARBON, CARBON], [molecule_form([atom(6), atom(6, 13)])]
        self.assertEqual(only(left, right), [0, 1])
        self.assertEqual(only([CARBON, CARBON], [molecule_form([atom(6), atom(6)])]), [0, 0])

    def test_faulty_forms(self):
        good = equation_form([HYDROGEN, OXYGEN], [WATER])
        self.assertEqual(desk.only([]), faulty(5, 0))
        self.assertEqual(desk.only(good + [1]), faulty(7, len(good)))
        for bad, rule, place in FAULTY_MOLECULES:
            start = molecule_places([WATER, bad])[1]
            self.assertEqual(only([WATER], [bad]), faulty(16 + rule, start + place))


class ByTrying(unittest.TestCase):
    MOST = {2: 40, 3: 24, 4: 15, 5: 12, 6: 11}

    def test_all_balanced_rows_of_a_small_sum(self):
        source = random.Random(21)
        seen = {}
        confirmed = 0
        for _ in range(400):
            measures = source.choice((
                ([(1, 0)], 2, 2, 1), ([(6, 0)], 2, 2, 0), ([(6, 0), (8, 0)], 3, 0, 0), ([(6, 0), (6, 13)], 2, 0, 0),
                ([(6, 0)], 3, 0, 0)))
            left, right = drawn_sides(source, *measures)
            answer = only(left, right)
            seen[tuple(answer)] = seen.get(tuple(answer), 0) + 1
            count = len(left + right)
            rows = [row for total in range(count, self.MOST[count] + 1) for row in rows_of_sum(count, total)
                    if are_balanced(left, right, row)]
            if rows:
                least = desk.least(equation_form(left, right))[2:]
                self.assertEqual(least, rows[0])
                others = [row for row in rows if not is_multiple(row, least)]
                self.assertIn(answer, ([0, 0],) if others else ([0, 0], [0, 1]))
                confirmed += bool(others)
            if answer == [0, 0]:
                self.assertNotEqual(desk.least(equation_form(left, right)), [-2])
        self.assertGreater(min(seen[told] for told in ((0, 1), (0, 0), (-2,))), 10)
        self.assertGreater(confirmed, 3 * seen[(0, 0)] // 4)


class Calling(unittest.TestCase):
    def test_soon(self):
        left = [molecule_of({(6, 0): 6}, 42, 24), molecule_of({(7, 0): 6}, 41, -24), molecule_of({(8, 0): 6}, 1, 23)]
        for right in (left, left[1:] + left[:1]):
            answer, seconds = timed(only, left, right)
            self.assertEqual(answer, [0, 0])
            self.assertLess(seconds, PATIENCE)

    def test_kinds(self):
        for sides in (([WATER], [WATER]), ([NOTHING], [NOTHING]), ([WATER], [OXYGEN]), ([WATER], [[]])):
            assert_plain(self, only(*sides))

    def test_handed_in_stays_and_nothing_is_kept(self):
        sides = [([HYDROGEN, OXYGEN], [WATER]), ([CARBON, OXYGEN], [CARBON_MONOXIDE, CARBON_DIOXIDE]), WITH_CHARGES,
                 ([WATER], [OXYGEN]), ([WATER], [[]])]
        assert_like_the_first_time(self, [(desk.only, equation_form(*both)) for both in sides])


if __name__ == "__main__":
    unittest.main()
