import itertools
import random
import time
import unittest

from tests.helper import (
    PATIENCE, atom, bond_place, faulty, formula_told, hand_place, is_fixed, molecule_form, redrawings, timed)
from wholeamounts import desk
from wholeamounts.molecules import Bond
from wholeamounts.redrawing import is_fixed_double, ways_at


def with_side(bonds, number, side=1):
    """The bonds with no side but at one of them."""
    return [tuple(bond[:3]) + ((side,) if k == number else (0,)) for k, bond in enumerate(bonds)]


def side_told(atoms, bonds, number, side=1):
    if isinstance(atoms, int):
        atoms = [atom()] * atoms
    return desk.formula(molecule_form(atoms, with_side(bonds, number, side)))


def ring(orders, first=0):
    """The bonds of a ring: from its first atom on, in the order that it is gone round."""
    count = len(orders)
    around = [(first + k, first + (k + 1) % count, order) for k, order in enumerate(orders)]
    return [(min(a, b), max(a, b), order) for a, b, order in around]


class Hands(unittest.TestCase):
    def told(self, neighbours, hydrogens, hand, order=1):
        atoms = [atom(hydrogens=hydrogens, hand=hand)] + [atom(9)] * neighbours
        bonds = [(0, k + 1, order) for k in range(neighbours)]
        return desk.formula(molecule_form(atoms, bonds))

    def test_neighbours_and_hydrogens(self):
        for neighbours, hydrogens in itertools.product(range(7), range(8)):
            for hand in (1, 2):
                told = self.told(neighbours, hydrogens, hand)
                if (neighbours, hydrogens) in ((3, 0), (3, 1), (4, 0)):
                    self.assertEqual(told[0], 0)
                else:
                    self.assertEqual(told, faulty(4, hand_place(0)))
            self.assertEqual(self.told(neighbours, hydrogens, 0)[0], 0)

    def test_orders_are_not_asked(self):
        for order in (1, 2, 3):
            self.assertEqual(self.told(3, 1, 1, order)[0], 0)

    def test_hydrogen_atoms_are_neighbours(self):
        atoms = [atom(1), atom(1), atom(6, hand=1), atom(9), atom(17)]
        bonds = [(0, 2, 1), (1, 2, 1), (2, 3, 1), (2, 4, 1)]
        self.assertEqual(desk.formula(molecule_form(atoms, bonds))[0], 0)

    def test_neighbours_before_and_behind(self):
        atoms = [atom(), atom(), atom(hand=2), atom()]
        bonds = [(0, 2, 1), (1, 2, 1), (2, 3, 1)]
        self.assertEqual(desk.formula(molecule_form(atoms, bonds)), [0, 3, 6, 0, 4])

    def test_neighbours_are_not_sums(self):
        atoms = [atom(hand=1), atom(), atom()]
        told = desk.formula(molecule_form(atoms, [(0, 1, 2), (0, 2, 2)]))
        self.assertEqual(told, faulty(4, hand_place(0)))


class EndsOfSides(unittest.TestCase):
    def told(self, left, left_hydrogens, right, right_hydrogens):
        """A double bond of the atoms 0 and 1, with so many others and hydrogens at each."""
        atoms = [atom(hydrogens=left_hydrogens), atom(hydrogens=right_hydrogens)] + [atom(9)] * (left + right)
        bonds = [(0, 1, 2, 1)]
        bonds += [(0, 2 + k, 1) for k in range(left)]
        bonds += [(1, 2 + left + k, 1) for k in range(right)]
        return desk.formula(molecule_form(atoms, bonds)), faulty(6, bond_place(len(atoms), 0, 3))

    def test_others_and_hydrogens(self):
        fitting = ((1, 0), (1, 1), (2, 0))
        for left, right in itertools.product(itertools.product(range(4), range(3)), repeat=2):
            told, refused = self.told(*left, *right)
            if left in fitting and right in fitting:
                self.assertEqual(told[0], 0)
            else:
                self.assertEqual(told, refused)

    def test_order(self):
        for order in (1, 2, 3):
            for side in (1, 2):
                told = side_told(4, [(0, 1, 1), (1, 2, order), (2, 3, 1)], 1, side)
                self.assertEqual(told, [0, 3, 6, 0, 4] if order == 2 else faulty(6, bond_place(4, 1, 3)))

    def test_hydrogen_atoms_are_neighbours(self):
        atoms = [atom(1), atom(1), atom(6), atom(6), atom(1), atom(1)]
        bonds = [(0, 2, 1), (1, 2, 1), (2, 3, 2), (3, 4, 1), (3, 5, 1)]
        self.assertEqual(side_told(atoms, bonds, 2), [0, 6, 1, 0, 4, 6, 0, 2])

    def test_cumulated_bonds(self):
        bonds = [(0, 1, 1), (1, 2, 2, 1), (2, 3, 2, 1), (3, 4, 2, 2), (4, 5, 1)]
        self.assertEqual(desk.formula(molecule_form([atom()] * 6, bonds)), [0, 3, 6, 0, 6])


class FixedInRings(unittest.TestCase):
    def assert_sides(self, atoms, bonds, fixed):
        """Just those double bonds are fixed."""
        bonds = sorted(bonds)
        for number, bond in enumerate(bonds):
            if bond[2] == 2:
                told = side_told(atoms, bonds, number)
                refused = faulty(6, bond_place(atoms, number, 3))
                self.assertEqual(told, [0, 3, 6, 0, atoms] if bond[:2] in fixed else refused, bond)
            self.assertEqual(is_fixed(atoms, bonds, number) and bond[2] == 2, bond[:2] in fixed)

    def test_ring_in_turn(self):
        for count in (4, 6, 8):
            self.assert_sides(count, ring([1, 2] * (count // 2)), [])

    def test_ring_of_doubles(self):
        self.assert_sides(4, ring([2] * 4), [])
        self.assert_sides(6, ring([2, 3, 2, 3, 2, 3]), [])
        self.assert_sides(3, ring([2] * 3), [(0, 1), (1, 2), (0, 2)])
        self.assert_sides(5, ring([2] * 5), [(0, 1), (1, 2), (2, 3), (3, 4), (0, 4)])

    def test_one_double_in_a_ring(self):
        self.assert_sides(6, ring([2, 1, 1, 1, 1, 1]), [(0, 1)])
        self.assert_sides(6, ring([2, 1, 1, 2, 1, 1]), [(0, 1), (3, 4)])
        self.assert_sides(4, ring([2, 1, 1, 1]), [(0, 1)])

    def test_opposite_ways_in_a_ring(self):
        self.assert_sides(4, ring([2, 1, 3, 1]), [])
        self.assert_sides(4, ring([2, 3, 1, 3]), [])
        self.assert_sides(4, ring([2, 3, 3, 3]), [(0, 1)])

    def test_double_at_a_ring(self):
        bonds = ring([1, 2] * 3) + [(5, 6, 1), (6, 7, 2), (7, 8, 1)]
        self.assert_sides(9, bonds, [(6, 7)])

    def test_two_rings_with_a_common_bond(self):
        bonds = ring([2, 1] * 5) + [(4, 9, 1)]
        self.assert_sides(10, bonds, [])

    def test_odd_ring_alone(self):
        self.assert_sides(5, ring([2, 1, 2, 1, 1]), [(0, 1), (2, 3)])

    def test_two_odd_rings_joined_by_a_bond(self):
        # Each ring gives the atom that is joined a change of two: the bond between takes both or none.
        for between in (1, 2, 3):
            for left, right in itertools.product(itertools.product((1, 2, 3), repeat=3), repeat=2):
                bonds = ring(left) + ring(right, 3) + [(2, 5, between)]
                self.compare(6, sorted(bonds))

    def test_two_odd_rings_with_a_common_atom(self):
        for left, right in itertools.product(itertools.product((1, 2, 3), repeat=3), repeat=2):
            second = ring(right, 2)
            self.compare(5, sorted(ring(left) + second))

    def compare(self, atoms, bonds):
        bonds = [bond + (0,) for bond in bonds]
        for number in range(len(bonds)):
            marked = with_side(bonds, number)
            self.assertEqual(side_told(atoms, bonds, number), formula_told([atom()] * atoms, marked), marked)


class ByBruteForce(unittest.TestCase):
    def drawn(self, source, most_atoms, most_bonds):
        count = source.randint(2, most_atoms)
        pairs = list(itertools.combinations(range(count), 2))
        chosen = sorted(source.sample(pairs, min(len(pairs), source.randint(1, most_bonds))))
        orders = source.choice(((1, 2), (1, 2, 3), (2,), (1, 1, 2), (1, 2, 2, 3)))
        return count, [pair + (source.choice(orders),) for pair in chosen]

    def test_all_that_formula_may_be_handed(self):
        source = random.Random(2)
        seen = {0: 0, 4: 0, 6: 0}
        for _ in range(4000):
            count, bonds = self.drawn(source, 10, 12)
            atoms = []
            for _ in range(count):
                hand = source.randint(1, 2) if source.random() < 0.05 else 0
                hydrogens = source.choice((0, 0, 0, 1, 2, 7))
                atoms.append(atom(source.randint(1, 8), source.choice((0, 1, 2, 500)), 0, hydrogens, hand))
            bonds = [bond + (source.choice((0, 0, 0, 1, 2)) if bond[2] == 2 else 0,) for bond in bonds]
            told = desk.formula(molecule_form(atoms, bonds))
            self.assertEqual(told, formula_told(atoms, bonds), (atoms, bonds))
            seen[told[2] if told[0] == -5 else 0] += 1
        self.assertGreater(min(seen.values()), 100)

    def test_each_double_bond(self):
        # Asked of the bonds themselves, so that ends with many neighbours are looked at too.
        source = random.Random(3)
        seen = {True: 0, False: 0}
        for _ in range(2500):
            count, bonds = self.drawn(source, 12, 16)
            rows = redrawings(count, bonds)
            read = [Bond(a, b, order, 0) for a, b, order in bonds]
            ways = ways_at(count, read)
            for number, bond in enumerate(bonds):
                if bond[2] == 2:
                    fixed = all(orders[number] == 2 for orders in rows)
                    self.assertEqual(is_fixed_double(ways, read, number), fixed, (bonds, number))
                    seen[fixed] += 1
        self.assertGreater(min(seen.values()), 1000)


class GreatMolecules(unittest.TestCase):
    """The document lets a molecule have 128 atoms and 192 bonds, with far too many redrawings to count."""

    def test_long_chain(self):
        bonds = [(k, k + 1, 2 if k % 2 else 1, k % 2) for k in range(127)]
        told, seconds = timed(desk.formula, molecule_form([atom()] * 128, bonds))
        self.assertEqual(told, [0, 3, 6, 0, 128])
        self.assertLess(seconds, PATIENCE)

    def test_chain_of_rings(self):
        # Sixteen rings of six with doubles in turn, each with a tail that ends in a fixed double bond.
        bonds = []
        for k in range(16):
            bonds += ring([1, 2] * 3, 8 * k) + [(8 * k, 8 * k + 6, 1), (8 * k + 6, 8 * k + 7, 2)]
            if k < 15:
                bonds += [(8 * k + 7, 8 * k + 11, 1)]
        bonds = sorted(bonds)
        tails = [(bond[:3] + (1,)) if bond[0] % 8 == 6 else bond + (0,) for bond in bonds]
        tails[-1] = tails[-1][:3] + (0,)
        told, seconds = timed(desk.formula, molecule_form([atom()] * 128, tails))
        self.assertEqual(told, [0, 3, 6, 0, 128])
        self.assertLess(seconds, PATIENCE)
        start = time.perf_counter()
        for number, bond in enumerate(bonds):
            if bond[2] == 2 and bond[0] % 8 != 6:
                self.assertEqual(side_told(128, bonds, number), faulty(6, bond_place(128, number, 3)))
        self.assertLess(time.perf_counter() - start, PATIENCE)

    def test_ladder_of_doubles(self):
        # 64 rungs: 128 atoms and 190 bonds; every ring of four can go up and down in turn.
        bonds = [(k, k + 64, 2) for k in range(64)]
        bonds += [(k, k + 1, 1) for k in range(127) if k != 63]
        bonds = sorted(bonds)
        for number in [k for k, bond in enumerate(bonds) if bond[2] == 2][::8]:
            told, seconds = timed(desk.formula, molecule_form([atom()] * 128, with_side(bonds, number)))
            self.assertEqual(told, faulty(6, bond_place(128, number, 3)))
            self.assertLess(seconds, PATIENCE)

    def test_wheel_of_odd_rings(self):
        # All rings go through atom 0 and are odd and alike: what one would give, none can take.
        bonds = [(0, k, 1) for k in range(1, 128)]
        bonds += [(k, k + 1, 2, 1) for k in range(1, 127, 2)]
        told, seconds = timed(desk.formula, molecule_form([atom()] * 128, sorted(bonds)))
        self.assertEqual(told, [0, 3, 6, 0, 128])
        self.assertLess(seconds, PATIENCE)
        # One ring that can take it: now each of the others can be otherwise.
        bonds = [(0, k, 2 if k in (1, 2) else 1) for k in range(1, 128)]
        bonds += [(1, 2, 1)] + [(k, k + 1, 2) for k in range(3, 127, 2)]
        bonds = sorted(bonds)
        number = bonds.index((125, 126, 2))
        self.assertEqual(side_told(128, bonds, number), faulty(6, bond_place(128, number, 3)))


if __name__ == "__main__":
    unittest.main()
