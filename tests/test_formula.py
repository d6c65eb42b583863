import random
import unittest

from tests.helper import (
    BENZENE, ETHANOL, MOLECULE_MARK, PATIENCE, assert_like_the_first_time, assert_plain, atom, beside, faulty,
    formula_told, hand_place, molecule_form, redrawings, renumbered, timed)
from wholeamounts import desk

ALANINE = ([atom(6, hydrogens=3), atom(6, hydrogens=1, hand=1), atom(7, hydrogens=2), atom(6), atom(8),
            atom(8, hydrogens=1)],
           [(0, 1, 1), (1, 2, 1), (1, 3, 1), (3, 4, 2), (3, 5, 1)])
BUTENE = ([atom(6, hydrogens=3), atom(6, hydrogens=1), atom(6, hydrogens=1), atom(6, hydrogens=3)],
          [(0, 1, 1), (1, 2, 2, 2), (2, 3, 1)])


def formula(molecule):
    return desk.formula(molecule_form(*molecule))


def counts_of(answer):
    row = answer[2:]
    return {(row[k], row[k + 1]): row[k + 2] for k in range(0, len(row), 3)}


def sum_of_counts(one, other):
    added = dict(one)
    for unit, count in other.items():
        added[unit] = added.get(unit, 0) + count
    return added


class Ordinary(unittest.TestCase):
    def test_no_atoms(self):
        self.assertEqual(desk.formula([70, 75, 77, 49, 0, 0]), [0, 0])

    def test_bytes_as_they_stand(self):
        water = [70, 75, 77, 49, 1, 0, 8, 0, 0, 4, 2, 0]
        self.assertEqual(desk.formula(water), [0, 6, 1, 0, 2, 8, 0, 1])

    def test_atoms_alone(self):
        self.assertEqual(formula(([atom(10)],)), [0, 3, 10, 0, 1])
        self.assertEqual(formula(([atom(17, charge=-1), atom(11, charge=1)],)), [0, 6, 11, 0, 1, 17, 0, 1])

    def test_hydrogens(self):
        self.assertEqual(formula(ETHANOL), [0, 9, 1, 0, 6, 6, 0, 2, 8, 0, 1])

    def test_hydrogens_join_hydrogen_atoms_as_they_come(self):
        molecule = ([atom(1), atom(8, hydrogens=1)], [(0, 1, 1)])
        self.assertEqual(formula(molecule), [0, 6, 1, 0, 2, 8, 0, 1])

    def test_hydrogens_are_not_of_their_atoms_isotope(self):
        molecule = ([atom(1, 2), atom(8, 18, hydrogens=1)], [(0, 1, 1)])
        self.assertEqual(formula(molecule), [0, 9, 1, 0, 1, 1, 2, 1, 8, 18, 1])

    def test_hydrogens_of_hydrogen(self):
        self.assertEqual(formula(([atom(1, 0, hydrogens=7)],)), [0, 3, 1, 0, 8])
        self.assertEqual(formula(([atom(1, 3, hydrogens=1)],)), [0, 6, 1, 0, 1, 1, 3, 1])

    def test_isotopes_of_one_element_rise(self):
        molecule = ([atom(6, 14), atom(6, 0), atom(6, 256), atom(6, 13), atom(6, 14), atom(5, 500)],)
        told = [0, 15, 5, 500, 1, 6, 0, 1, 6, 13, 1, 6, 14, 2, 6, 256, 1]
        self.assertEqual(formula(molecule), told)

    def test_bonds(self):
        self.assertEqual(formula(BENZENE), [0, 6, 1, 0, 6, 6, 0, 6])

    def test_hands_and_sides(self):
        self.assertEqual(formula(ALANINE), [0, 12, 1, 0, 7, 6, 0, 3, 7, 0, 1, 8, 0, 2])
        self.assertEqual(formula(BUTENE), [0, 6, 1, 0, 8, 6, 0, 4])

    def test_no_valences_are_asked(self):
        molecule = ([atom(2, hydrogens=7), atom(118, 500, 4, 7), atom(9, 0, -4, 7)],
                    [(0, 1, 3), (0, 2, 3), (1, 2, 3)])
        self.assertEqual(formula(molecule), [0, 12, 1, 0, 21, 2, 0, 1, 9, 0, 1, 118, 500, 1])

    def test_kinds(self):
        for form in (molecule_form(*ALANINE), []):
            assert_plain(self, desk.formula(form))


class HoweverDrawn(unittest.TestCase):
    def test_atoms_in_another_order(self):
        source = random.Random(1)
        for molecule in (ETHANOL, BENZENE):
            told = formula(molecule)
            for _ in range(50):
                numbers = list(range(len(molecule[0])))
                source.shuffle(numbers)
                self.assertEqual(formula(renumbered(molecule, numbers)), told)

    def test_redrawn(self):
        atoms, bonds = BENZENE
        rows = redrawings(len(atoms), bonds)
        self.assertGreater(len(rows), 1)
        for orders in rows:
            redrawn = [(a, b, order) for (a, b, _), order in zip(bonds, orders)]
            self.assertEqual(formula((atoms, redrawn)), formula(BENZENE))

    def test_mirror_and_other_side(self):
        atoms = list(ALANINE[0])
        atoms[1] = atom(6, hydrogens=1, hand=2)
        self.assertEqual(formula((atoms, ALANINE[1])), formula(ALANINE))
        self.assertEqual(formula((BUTENE[0], [(0, 1, 1), (1, 2, 2, 1), (2, 3, 1)])), formula(BUTENE))

    def test_hydrogens_drawn_as_atoms(self):
        self.assertEqual(formula(([atom(8, hydrogens=2)],)),
                         formula(([atom(1), atom(8), atom(1)], [(0, 1, 1), (1, 2, 1)])))


class OfWhatIsJoined(unittest.TestCase):
    def test_they_add_up(self):
        for one in (ETHANOL, BENZENE, BUTENE, ([atom(6, 13)],), ([],)):
            one = (one[0], one[1] if len(one) > 1 else [])
            for other in (ETHANOL, BUTENE):
                both = beside(one, other)
                told = sum_of_counts(counts_of(formula(one)), counts_of(formula(other)))
                self.assertEqual(counts_of(formula(both)), told)

    def test_a_bond_between_them_adds_nothing(self):
        atoms, bonds = beside(ETHANOL, ETHANOL)
        joined = sorted(bonds + [(1, 4, 1)])
        self.assertEqual(formula((atoms, joined)), formula((atoms, bonds)))


class Calling(unittest.TestCase):
    def test_greatest_inputs_soon(self):
        pairs = [(a, b) for a in range(10) for b in range(a + 1, 10)]
        for count in (4, 5, 6, 7, 10):
            fitting = [pair for pair in pairs if pair[1] < count][:12]
            bonds = [pair + (2,) for pair in fitting[:-1]] + [fitting[-1] + (2, 1)]
            atoms = [atom(118, 500, 4, 0)] * count
            answer, seconds = timed(desk.formula, molecule_form(atoms, bonds))
            self.assertEqual(answer, formula_told(atoms, [(bond + (0,))[:4] for bond in bonds]))
            self.assertLess(seconds, PATIENCE)
        form = molecule_form([atom(k + 1, 500, 4, 7) for k in range(10)], [pair + (3,) for pair in pairs[:12]])
        self.assertEqual(desk.formula(form)[:2], [0, 33])
        answer, seconds = timed(desk.formula, form + [0] * (2000 - len(form)))
        self.assertEqual(answer, faulty(7, len(form)))
        self.assertLess(seconds, PATIENCE)

    def test_handed_in_stays_and_nothing_is_kept(self):
        good = molecule_form(*ALANINE)
        bad_hand = list(good)
        bad_hand[hand_place(0)] = 1
        forms = [good, good[:-1], good + [1], bad_hand, molecule_form(*BUTENE), [], MOLECULE_MARK + [0, 0]]
        assert_like_the_first_time(self, [(desk.formula, form) for form in forms])


if __name__ == "__main__":
    unittest.main()
