import itertools
import random
import unittest

from tests.helper import (
    CARBON, CARBON_DIOXIDE, FAULTY_MOLECULES, HYDROGEN, LAST, METHANE, NOTHING, OXYGEN, PATIENCE, PERMANGANATE, WATER,
    assert_like_the_first_time, assert_plain, atom, equation_form, faulty, ion, molecule_form, molecule_of,
    molecule_places, surpluses, timed)
from wholeamounts import desk

BURNING = ([METHANE, OXYGEN], [CARBON_DIOXIDE, WATER])
WITH_CHARGES = ([PERMANGANATE, ion(26, 2), ion(1, 1)], [ion(25, 2), ion(26, 3), WATER])
HEAVY_CARBON = molecule_form([atom(6, 13)])


def kept(sides, *numbers):
    return desk.kept(equation_form(*sides), list(numbers))


def kept_told(left, right, numbers):
    """By the sums of each unit gone through one by one."""
    off = sorted(unit for unit, surplus in surpluses(left, right, numbers).items() if surplus)
    if not off:
        return [0, 1, 0, 0]
    # Charges, under (0, 0), are told only if they are alone.
    first = [unit for unit in off if unit != (0, 0)][:1] or [(0, 0)]
    return [0, 0, *first[0]]


class Balanced(unittest.TestCase):
    def test_bytes_as_they_stand(self):
        form = [70, 75, 81, 49, 1, 1, 12, 0, 70, 75, 77, 49, 1, 0, 8, 0, 0, 4, 2, 0,
                12, 0, 70, 75, 77, 49, 1, 0, 8, 0, 0, 4, 2, 0]
        self.assertEqual(desk.kept(form, [3, 3]), [0, 1, 0, 0])
        self.assertEqual(desk.kept(form, [3, 2]), [0, 0, 1, 0])

    def test_multiples(self):
        for times in (1, 2, 3, 1000, 2 ** 63):
            self.assertEqual(kept(BURNING, times, 2 * times, times, 2 * times), [0, 1, 0, 0])
        for times in (1, 2, 7, 2 ** 60):
            numbers = [times * number for number in (1, 5, 8, 1, 5, 4)]
            self.assertEqual(kept(WITH_CHARGES, *numbers), [0, 1, 0, 0])

    def test_molecules_without_atoms(self):
        self.assertEqual(kept(([NOTHING], [NOTHING]), 5, 7), [0, 1, 0, 0])
        self.assertEqual(kept(([NOTHING, WATER], [NOTHING, WATER]), 5, 3, 7, 3), [0, 1, 0, 0])

    def test_greatest_numbers(self):
        self.assertEqual(kept(([WATER], [WATER]), LAST, LAST), [0, 1, 0, 0])
        self.assertEqual(kept(([WATER, WATER], [WATER, WATER]), LAST, 1, 1, LAST), [0, 1, 0, 0])
        self.assertEqual(kept(([WATER], [WATER]), LAST, LAST - 1), [0, 0, 1, 0])
        self.assertEqual(kept(BURNING, LAST, LAST, LAST, LAST), [0, 0, 1, 0])

    def test_eight_on_each_side(self):
        sides = ([WATER, METHANE, NOTHING, OXYGEN] * 2, [OXYGEN, NOTHING, METHANE, WATER] * 2)
        self.assertEqual(kept(sides, *[1, 2, 3, 4] * 2, *[4, 9, 2, 1] * 2), [0, 1, 0, 0])
        self.assertEqual(kept(sides, *[1, 2, 3, 4] * 2, *[4, 9, 2, 1] * 1, 4, 9, 3, 1), [0, 0, 1, 0])


class NotKept(unittest.TestCase):
    def test_one_element(self):
        self.assertEqual(kept(BURNING, 1, 1, 1, 2), [0, 0, 8, 0])
        self.assertEqual(kept(([CARBON, OXYGEN], [CARBON_DIOXIDE]), 2, 1, 1), [0, 0, 6, 0])

    def test_several_the_first(self):
        self.assertEqual(kept(BURNING, 1, 1, 1, 1), [0, 0, 1, 0])
        self.assertEqual(kept(BURNING, 1, 3, 2, 2), [0, 0, 6, 0])
        self.assertEqual(kept(([ion(118, 0)], [ion(117, 0)]), 1, 1), [0, 0, 117, 0])

    def test_on_one_side_alone(self):
        self.assertEqual(kept(([WATER], [OXYGEN]), 2, 1), [0, 0, 1, 0])
        self.assertEqual(kept(([OXYGEN], [WATER]), 1, 2), [0, 0, 1, 0])
        self.assertEqual(kept(([NOTHING], [CARBON]), 1, 1), [0, 0, 6, 0])

    def test_isotopes_are_kept_by_themselves(self):
        self.assertEqual(kept(([HEAVY_CARBON], [CARBON]), 1, 1), [0, 0, 6, 0])
        sides = ([HEAVY_CARBON, CARBON], [CARBON, HEAVY_CARBON])
        self.assertEqual(kept(sides, 1, 2, 2, 1), [0, 1, 0, 0])
        self.assertEqual(kept(sides, 1, 2, 2, 2), [0, 0, 6, 13])
        self.assertEqual(kept(sides, 1, 2, 1, 2), [0, 0, 6, 0])

    def test_isotopes_rise_as_numbers(self):
        left = [molecule_form([atom(6, 256)]), molecule_form([atom(6, 255)]), molecule_form([atom(7, 1)])]
        self.assertEqual(kept((left, left), 1, 1, 1, 2, 2, 2), [0, 0, 6, 255])
        self.assertEqual(kept((left, left), 1, 1, 1, 2, 1, 2), [0, 0, 6, 256])
        self.assertEqual(kept((left, left), 1, 1, 1, 1, 1, 2), [0, 0, 7, 1])

    def test_hydrogens_and_hydrogen_atoms(self):
        atoms = molecule_form([atom(1), atom(8), atom(1)], [(0, 1, 1), (1, 2, 1)])
        self.assertEqual(kept(([WATER], [atoms]), 1, 1), [0, 1, 0, 0])
        heavy = molecule_form([atom(1, 2), atom(8), atom(1, 2)], [(0, 1, 1), (1, 2, 1)])
        self.assertEqual(kept(([WATER], [heavy]), 1, 1), [0, 0, 1, 0])
        self.assertEqual(kept(([heavy, WATER], [heavy, WATER]), 1, 1, 2, 1), [0, 0, 1, 2])

    def test_charges_alone(self):
        self.assertEqual(kept(([ion(26, 3)], [ion(26, 2)]), 1, 1), [0, 0, 0, 0])
        self.assertEqual(kept(([ion(26, 3), ion(50, 2)], [ion(26, 2), ion(50, 4)]), 1, 1, 1, 1), [0, 0, 0, 0])
        self.assertEqual(kept(([ion(26, 3), ion(50, 2)], [ion(26, 2), ion(50, 4)]), 2, 1, 2, 1), [0, 1, 0, 0])

    def test_charges_and_an_element(self):
        self.assertEqual(kept(([ion(26, 3)], [ion(26, 2)]), 1, 2), [0, 0, 26, 0])
        # The charges are kept, the element isn't.
        self.assertEqual(kept(([ion(26, 3)], [ion(26, 2)]), 2, 3), [0, 0, 26, 0])
        self.assertEqual(kept(WITH_CHARGES, 1, 5, 8, 1, 4, 4), [0, 0, 26, 0])
        self.assertEqual(kept(WITH_CHARGES, 1, 4, 8, 1, 4, 4), [0, 0, 0, 0])

    def test_charges_within_a_molecule_add_up(self):
        both = molecule_form([atom(7, charge=1), atom(8, charge=-1)], [(0, 1, 1)])
        none = molecule_form([atom(7), atom(8)], [(0, 1, 2)])
        self.assertEqual(kept(([both], [none]), 1, 1), [0, 1, 0, 0])

    def test_as_gone_through_one_by_one(self):
        source = random.Random(11)
        pool = [NOTHING, HYDROGEN, OXYGEN, WATER, CARBON, HEAVY_CARBON, METHANE, ion(1, 1), ion(8, -2), ion(26, 3),
                ion(26, 2), PERMANGANATE, CARBON_DIOXIDE]
        seen = {}
        for _ in range(3000):
            left = source.sample(pool, source.randint(1, 3))
            right = source.sample(left + source.sample(pool, 2), source.randint(1, len(left)))
            numbers = [source.randint(1, 2) for _ in left + right]
            told = kept_told(left, right, numbers)
            self.assertEqual(kept((left, right), *numbers), told)
            seen[tuple(told)] = seen.get(tuple(told), 0) + 1
        self.assertGreater(seen[(0, 1, 0, 0)], 20)
        self.assertGreater(seen[(0, 0, 0, 0)], 10)
        self.assertGreater(len(seen), 6)


class Refusals(unittest.TestCase):
    def test_not_one_number_for_each(self):
        for numbers in ([], [1], [1, 2, 1], [1, 2, 1, 2, 1], [1] * 100):
            self.assertEqual(kept(BURNING, *numbers), [-1])

    def test_a_number_nought(self):
        for k in range(4):
            numbers = [1, 2, 1, 2]
            numbers[k] = 0
            self.assertEqual(kept(BURNING, *numbers), [-1])
        self.assertEqual(kept(BURNING, 0, 0, 0, 0), [-1])
        self.assertEqual(kept(([NOTHING], [NOTHING]), 0, 1), [-1])

    def test_faulty_form_ahead_of_bad_numbers(self):
        good = equation_form(*BURNING)
        for numbers in ([], [0], [1, 2, 1, 2], [0, 0, 0, 0]):
            self.assertEqual(desk.kept([], numbers), faulty(5, 0))
            self.assertEqual(desk.kept(good + [1], numbers), faulty(7, len(good)))
            self.assertEqual(desk.kept(good[:4] + [9], numbers), faulty(2, 4))
            for bad, rule, place in FAULTY_MOLECULES:
                start = molecule_places([WATER, bad])[1]
                self.assertEqual(kept(([WATER], [bad]), *numbers), faulty(16 + rule, start + place))


class Calling(unittest.TestCase):
    def test_greatest_inputs_soon(self):
        pairs = list(itertools.combinations(range(128), 2))[:192]
        atoms = [atom(1 + k % 118, k, 4, 7) for k in range(128)]
        large = molecule_form(atoms, [pair + (3,) for pair in pairs])
        sides = ([large] * 8, [large] * 8)
        for last, told in ((LAST, [0, 1, 0, 0]), (LAST - 1, [0, 0, 1, 0])):
            answer, seconds = timed(kept, sides, *[LAST] * 15, last)
            self.assertEqual(answer, told)
            self.assertLess(seconds, PATIENCE)

    def test_greatest_counts(self):
        # As many units as a molecule can have: 128 atoms with 7 hydrogens each.
        full = molecule_of({(1, 0): 128}, 896, 512)
        half = molecule_of({(1, 0): 64}, 448, 256)
        self.assertEqual(kept(([full], [half]), 1, 2), [0, 1, 0, 0])
        self.assertEqual(kept(([full], [half]), LAST, LAST), [0, 0, 1, 0])

    def test_kinds(self):
        for numbers in ([1, 2, 1, 2], [1, 1, 1, 1], [0]):
            assert_plain(self, kept(BURNING, *numbers))

    def test_handed_in_stays_and_nothing_is_kept(self):
        forms = [equation_form(*BURNING), equation_form(*WITH_CHARGES), [], equation_form([WATER], [[]])]
        rows = [[1, 2, 1, 2], [1, 1, 1, 1], [1, 5, 8, 1, 5, 4], [1, 0, 1, 2], [], [LAST, LAST]]
        assert_like_the_first_time(self, [(desk.kept, form, row) for form in forms for row in rows])


if __name__ == "__main__":
    unittest.main()
