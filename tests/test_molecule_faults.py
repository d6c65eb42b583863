import itertools
import unittest

from tests.helper import MOLECULE_MARK, atom, bond_place, faulty, hand_place, low_first, molecule_form
from wholeamounts import desk
from wholeamounts.molecules import read_molecule

THREE = [atom(6, 13, -1, 3), atom(7, 0, 1, 0), atom(8, 300, 0, 1)]
TWO_BONDS = [(0, 1, 1), (1, 2, 3)]
GOOD = molecule_form(THREE, TWO_BONDS)
GOOD_TOLD = [0, 12, 1, 0, 4, 6, 13, 1, 7, 0, 1, 8, 300, 1]


def changed(place, *numbers):
    form = list(GOOD)
    form[place:place + len(numbers)] = numbers
    return desk.formula(form)


def bonds_told(atoms, bonds):
    return desk.formula(molecule_form([atom()] * atoms, bonds))


class Mark(unittest.TestCase):
    def test_each_byte(self):
        for place in range(4):
            for byte in (0, MOLECULE_MARK[place] - 1, MOLECULE_MARK[place] + 1, 255):
                self.assertEqual(changed(place, byte), faulty(1, place))

    def test_marks_of_other_forms(self):
        for letter in (69, 81):
            self.assertEqual(desk.formula([70, 75, letter, 49, 0, 0]), faulty(1, 2))

    def test_wrong_byte_ahead_of_the_end(self):
        self.assertEqual(desk.formula([71]), faulty(1, 0))
        self.assertEqual(desk.formula([70, 75, 77, 48]), faulty(1, 3))


class BoundsOfCounts(unittest.TestCase):
    def test_atoms(self):
        self.assertEqual(desk.formula(molecule_form([atom(6)] * 128)), [0, 3, 6, 0, 128])
        for count in (129, 255):
            self.assertEqual(desk.formula(MOLECULE_MARK + [count]), faulty(2, 4))
            self.assertEqual(desk.formula(MOLECULE_MARK + [count, 255]), faulty(2, 4))

    def test_bonds(self):
        pairs = list(itertools.combinations(range(128), 2))
        bonds = [pair + (1,) for pair in pairs[:192]]
        self.assertEqual(bonds_told(128, bonds), [0, 3, 6, 0, 128])
        for count in (193, 255):
            self.assertEqual(desk.formula(MOLECULE_MARK + [0, count]), faulty(2, 5))


class BoundsOfAtoms(unittest.TestCase):
    def in_bounds(self, place, *numbers):
        self.assertEqual(changed(place, *numbers)[0], 0)

    def test_good(self):
        self.assertEqual(desk.formula(GOOD), GOOD_TOLD)

    def test_charges_are_read_with_their_signs(self):
        self.assertEqual([read.charge for read in read_molecule(GOOD).atoms], [-1, 1, 0])

    def test_each_atom(self):
        for k in range(3):
            start = 6 + 6 * k
            self.in_bounds(start, 1)
            self.in_bounds(start, 118)
            for element in (0, 119, 255):
                self.assertEqual(changed(start, element), faulty(2, start))
            for isotope in (0, 1, 255, 256, 500):
                self.in_bounds(start + 1, *low_first(isotope, 2))
            for isotope in (501, 511, 512, 65535):
                self.assertEqual(changed(start + 1, *low_first(isotope, 2)), faulty(2, start + 1))
            self.in_bounds(start + 3, 0)
            self.in_bounds(start + 3, 8)
            for charge in (9, 255):
                self.assertEqual(changed(start + 3, charge), faulty(2, start + 3))
            self.in_bounds(start + 4, 0)
            self.in_bounds(start + 4, 7)
            for hydrogens in (8, 255):
                self.assertEqual(changed(start + 4, hydrogens), faulty(2, start + 4))

    def test_hand(self):
        star = [(0, 1, 1), (0, 2, 1), (0, 3, 1)]
        for hand in (0, 1, 2):
            form = molecule_form([atom(hand=hand)] + [atom()] * 3, star)
            self.assertEqual(desk.formula(form), [0, 3, 6, 0, 4])
        for hand in (3, 255):
            form = molecule_form([atom(hand=hand)] + [atom()] * 3, star)
            self.assertEqual(desk.formula(form), faulty(2, hand_place(0)))

    def test_isotope_judged_when_both_bytes_are_there(self):
        head = MOLECULE_MARK + [1, 0, 6]
        self.assertEqual(desk.formula(head + [255]), faulty(5, 8))
        self.assertEqual(desk.formula(head + [245]), faulty(5, 8))
        self.assertEqual(desk.formula(head + [245, 1]), faulty(2, 7))
        self.assertEqual(desk.formula(head + [244, 1]), faulty(5, 9))


class BoundsOfBonds(unittest.TestCase):
    def test_a(self):
        self.assertEqual(bonds_told(3, [(1, 2, 1)])[0], 0)
        for a in (3, 4, 255):
            self.assertEqual(bonds_told(3, [(a, 2, 1)]), faulty(2, bond_place(3, 0)))

    def test_b_below_n(self):
        self.assertEqual(bonds_told(3, [(0, 2, 1)])[0], 0)
        for b in (3, 255):
            self.assertEqual(bonds_told(3, [(0, b, 1)]), faulty(2, bond_place(3, 0, 1)))

    def test_b_above_a(self):
        for a, b in ((1, 1), (1, 0), (2, 1), (2, 3)):
            self.assertEqual(bonds_told(3, [(a, b, 1)]), faulty(2, bond_place(3, 0, 1)))

    def test_bond_without_atoms(self):
        self.assertEqual(bonds_told(0, [(0, 1, 1)]), faulty(2, 6))
        self.assertEqual(bonds_told(1, [(0, 1, 1)]), faulty(2, 13))
        self.assertEqual(desk.formula(MOLECULE_MARK + [0, 1]), faulty(5, 6))

    def test_order(self):
        for order in (1, 2, 3):
            self.assertEqual(bonds_told(2, [(0, 1, order)]), [0, 3, 6, 0, 2])
        for order in (0, 4, 255):
            self.assertEqual(bonds_told(2, [(0, 1, order)]), faulty(2, bond_place(2, 0, 2)))

    def test_side(self):
        for side in (0, 1, 2):
            self.assertEqual(bonds_told(4, [(0, 1, 1), (1, 2, 2, side), (2, 3, 1)]), [0, 3, 6, 0, 4])
        for side in (3, 255):
            told = bonds_told(4, [(0, 1, 1), (1, 2, 2, side), (2, 3, 1)])
            self.assertEqual(told, faulty(2, bond_place(4, 1, 3)))

    def test_second_bond(self):
        for within, number in ((0, 3), (1, 3), (2, 4), (3, 3)):
            bond = [1, 2, 1, 0]
            bond[within] = number
            self.assertEqual(bonds_told(3, [(0, 1, 1), tuple(bond)]), faulty(2, bond_place(3, 1, within)))


class Rising(unittest.TestCase):
    def test_same_bond_again(self):
        self.assertEqual(bonds_told(3, [(0, 1, 1), (0, 1, 2)]), faulty(3, bond_place(3, 1)))

    def test_b_falls(self):
        self.assertEqual(bonds_told(3, [(0, 2, 1), (0, 1, 1)]), faulty(3, bond_place(3, 1)))

    def test_a_falls(self):
        self.assertEqual(bonds_told(4, [(1, 2, 1), (0, 3, 1)]), faulty(3, bond_place(4, 1)))

    def test_b_may_fall_with_the_next_a(self):
        self.assertEqual(bonds_told(4, [(0, 3, 1), (1, 2, 1)])[0], 0)

    def test_third_bond(self):
        told = bonds_told(4, [(0, 1, 1), (0, 3, 1), (0, 2, 1)])
        self.assertEqual(told, faulty(3, bond_place(4, 2)))

    def test_asked_when_a_and_b_are_read(self):
        head = molecule_form([atom()] * 3, [(0, 2, 1)])
        head[5] = 2
        self.assertEqual(desk.formula(head + [0]), faulty(5, len(head) + 1))
        self.assertEqual(desk.formula(head + [0, 1]), faulty(3, len(head)))
        self.assertEqual(desk.formula(head + [0, 1, 9, 9]), faulty(3, len(head)))
        self.assertEqual(desk.formula(head + [0, 3]), faulty(2, len(head) + 1))
        self.assertEqual(desk.formula(head + [0, 0]), faulty(2, len(head) + 1))

    def test_one_order_alone(self):
        bonds = [(0, 1, 1), (0, 2, 2), (1, 2, 1), (2, 3, 3)]
        for row in itertools.permutations(bonds):
            told = bonds_told(4, row)
            if list(row) == bonds:
                self.assertEqual(told, [0, 3, 6, 0, 4])
            else:
                self.assertEqual(told[:3], [-5, 0, 3])


class Ends(unittest.TestCase):
    def test_cut_off_at_each_byte(self):
        for form in (GOOD, MOLECULE_MARK + [0, 0], molecule_form([atom(hydrogens=4)])):
            for cut in range(len(form)):
                self.assertEqual(desk.formula(form[:cut]), faulty(5, cut))

    def test_left_over(self):
        for form in (GOOD, MOLECULE_MARK + [0, 0], molecule_form([atom(hydrogens=4)])):
            for more in ([0], [255], [70], [0, 0, 0, 0], [1] * 100):
                self.assertEqual(desk.formula(form + more), faulty(7, len(form)))


class Several(unittest.TestCase):
    def test_first_from_the_front(self):
        self.assertEqual(desk.formula([70, 75, 77, 50, 129, 193]), faulty(1, 3))
        self.assertEqual(desk.formula(MOLECULE_MARK + [129, 193]), faulty(2, 4))
        form = molecule_form([atom(0, 501)], [(1, 0, 4)])
        self.assertEqual(desk.formula(form), faulty(2, 6))
        form[6] = 1
        self.assertEqual(desk.formula(form), faulty(2, 7))

    def test_hand_gives_way_to_all_that_is_read(self):
        wrong_hand = [atom(hand=1), atom(), atom()]
        self.assertEqual(desk.formula(molecule_form(wrong_hand)), faulty(4, 11))
        self.assertEqual(desk.formula(molecule_form(wrong_hand) + [0]), faulty(7, 24))
        self.assertEqual(desk.formula(molecule_form(wrong_hand)[:-1]), faulty(5, 23))
        self.assertEqual(desk.formula(molecule_form(wrong_hand + [atom(0)])), faulty(2, 24))
        self.assertEqual(desk.formula(molecule_form(wrong_hand, [(0, 1, 4)])), faulty(2, 26))
        self.assertEqual(desk.formula(molecule_form(wrong_hand, [(0, 1, 1), (0, 1, 1)])), faulty(3, 28))

    def test_side_gives_way_to_all_that_is_read(self):
        form = molecule_form([atom()] * 3, [(0, 1, 1, 1), (1, 2, 1)])
        self.assertEqual(desk.formula(form), faulty(6, 27))
        self.assertEqual(desk.formula(form + [0]), faulty(7, 32))
        self.assertEqual(desk.formula(form[:-1]), faulty(5, 31))
        form[-2] = 0
        self.assertEqual(desk.formula(form), faulty(2, 30))

    def test_hand_ahead_of_side(self):
        form = molecule_form([atom(), atom(), atom(hand=2)], [(0, 1, 1, 1), (1, 2, 1)])
        self.assertEqual(desk.formula(form), faulty(4, hand_place(2)))

    def test_first_hand_and_first_side(self):
        form = molecule_form([atom(), atom(hand=2), atom(hand=1)])
        self.assertEqual(desk.formula(form), faulty(4, hand_place(1)))
        form = molecule_form([atom()] * 3, [(0, 1, 1), (0, 2, 1, 1), (1, 2, 2, 2)])
        self.assertEqual(desk.formula(form), faulty(6, bond_place(3, 1, 3)))

    def test_hands_and_sides_that_may_be_are_passed_over(self):
        star = [(0, 1, 1), (0, 2, 1), (0, 3, 1)]
        form = molecule_form([atom(hand=1), atom(hand=1), atom(), atom()], star)
        self.assertEqual(desk.formula(form), faulty(4, hand_place(1)))
        chain = [(0, 1, 1), (1, 2, 2, 1), (2, 3, 1, 1)]
        form = molecule_form([atom()] * 4, chain)
        self.assertEqual(desk.formula(form), faulty(6, bond_place(4, 2, 3)))


if __name__ == "__main__":
    unittest.main()
