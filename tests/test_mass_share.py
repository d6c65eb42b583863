import itertools
import random
import unittest
from fractions import Fraction

from tests.helper import (
    BENZENE, BOOK_MARK, ETHANOL, LAST, MOLECULE_MARK, MOST_MASS, PATIENCE, assert_like_the_first_time,
    assert_plain, atom, beside, book_form, entry_bytes, faulty, greatest_book, molecule_form, redrawings, renumbered,
    timed)
from wholeamounts import desk

# More entries than any molecule here needs.
ENTRIES = [(1, 0, 1008), (1, 2, 2014), (6, 0, 12011), (6, 13, 13003), (7, 0, 14007), (8, 0, 15999), (118, 500, 7)]
BOOK = book_form(ENTRIES)
MASSES = {entry[:2]: entry[2] for entry in ENTRIES}
WATER = ([atom(8, hydrogens=2)], [])
NOTHING = ([], [])
HEAVY = ([atom(6, 13, hydrogens=1), atom(1, 2), atom(1), atom(6, hydrogens=2)], [(0, 1, 1), (0, 2, 1), (0, 3, 1)])


def mass(molecule, book=BOOK):
    return desk.mass(book, molecule_form(*molecule))


def share(element, molecule, book=BOOK):
    return desk.share(element, book, molecule_form(*molecule))


def book_without(*units):
    return book_form([entry for entry in ENTRIES if entry[:2] not in units])


def units_of(molecule):
    """Each unit by itself, one after the other."""
    units = []
    for element, isotope, _, hydrogens, _ in molecule[0]:
        units += [(element, isotope)] + [(1, 0)] * hydrogens
    return units


def mass_by_units(molecule, masses):
    return sum(masses[unit] for unit in units_of(molecule))


def share_told(element, molecule, masses):
    part = sum(masses[unit] for unit in units_of(molecule) if unit[0] == element)
    told = Fraction(part, mass_by_units(molecule, masses))
    return [0, told.numerator, told.denominator]


class Mass(unittest.TestCase):
    def test_no_atoms(self):
        self.assertEqual(mass(NOTHING), [0, 0])
        self.assertEqual(mass(NOTHING, book_form([])), [0, 0])

    def test_one_atom(self):
        self.assertEqual(mass(([atom(6)],)), [0, 12011])
        self.assertEqual(mass(([atom(118, 500)],)), [0, 7])

    def test_bytes_as_they_stand(self):
        book = [70, 75, 69, 49, 1, 0, 8, 0, 0, 128, 62, 0, 0, 0, 0, 0, 0]
        self.assertEqual(desk.mass(book, [70, 75, 77, 49, 1, 0, 8, 0, 0, 4, 0, 0]), [0, 16000])

    def test_hydrogens(self):
        self.assertEqual(mass(WATER), [0, 15999 + 2 * 1008])
        self.assertEqual(mass(ETHANOL), [0, 2 * 12011 + 6 * 1008 + 15999])

    def test_isotopes(self):
        self.assertEqual(mass(([atom(6, 13)],)), [0, 13003])
        self.assertEqual(mass(HEAVY), [0, 13003 + 2014 + 4 * 1008 + 12011])

    def test_charges_weigh_nothing(self):
        for charge in range(-4, 5):
            self.assertEqual(mass(([atom(8, charge=charge, hydrogens=1)],)), [0, 15999 + 1008])

    def test_just_the_entries_needed(self):
        self.assertEqual(mass(WATER, book_form([(1, 0, 1008), (8, 0, 15999)])), mass(WATER))

    def test_entry_of_one_byte_more(self):
        for value in (1, 255, 256, 65536, MOST_MASS - 1, MOST_MASS):
            self.assertEqual(mass(([atom(6)],), book_form([(6, 0, value)])), [0, value])


class Share(unittest.TestCase):
    def test_of_an_element_in_it(self):
        self.assertEqual(share(8, WATER), share_told(8, WATER, MASSES))
        self.assertEqual(share(6, ETHANOL), share_told(6, ETHANOL, MASSES))
        self.assertEqual(share(1, ETHANOL), share_told(1, ETHANOL, MASSES))

    def test_lowest_terms(self):
        book = book_form([(1, 0, 1), (6, 0, 12), (8, 0, 16)])
        self.assertEqual(share(1, WATER, book), [0, 1, 9])
        self.assertEqual(share(8, WATER, book), [0, 8, 9])
        self.assertEqual(share(6, BENZENE, book), [0, 12, 13])
        self.assertEqual(share(1, ETHANOL, book), [0, 3, 23])

    def test_of_an_element_not_in_it(self):
        for element in (2, 6, 7, 118):
            self.assertEqual(share(element, WATER), [0, 0, 1])

    def test_the_whole(self):
        self.assertEqual(share(6, ([atom(6)],)), [0, 1, 1])
        self.assertEqual(share(6, ([atom(6), atom(6, 13), atom(6)], [(0, 1, 2), (1, 2, 2)])), [0, 1, 1])
        self.assertEqual(share(1, ([atom(1, 2, hydrogens=7)],)), [0, 1, 1])

    def test_of_whatever_isotope(self):
        for element in (1, 6, 8):
            self.assertEqual(share(element, HEAVY), share_told(element, HEAVY, MASSES))
        self.assertEqual(share(1, HEAVY)[1:], [3023, 15530])

    def test_elements_at_the_bounds(self):
        molecule = ([atom(1), atom(118, 500)],)
        self.assertEqual(share(1, molecule), [0, 144, 145])
        self.assertEqual(share(118, molecule), [0, 1, 145])

    def test_shares_add_up_to_the_whole(self):
        for molecule in (WATER, ETHANOL, HEAVY):
            shares = [share(element, molecule) for element in range(1, 119)]
            self.assertEqual(sum(Fraction(told[1], told[2]) for told in shares), 1)


class Refusals(unittest.TestCase):
    def test_element_out_of_bounds(self):
        for element in (0, 119, 256, 257, LAST):
            self.assertEqual(share(element, WATER), [-1])

    def test_element_ahead_of_forms(self):
        for element in (0, 119, LAST):
            self.assertEqual(desk.share(element, [], []), [-1])
            self.assertEqual(desk.share(element, BOOK, [1]), [-1])
            self.assertEqual(desk.share(element, BOOK, MOLECULE_MARK + [0, 0]), [-1])
            self.assertEqual(desk.share(element, book_form([]), molecule_form(*WATER)), [-1])

    def test_element_is_in_bounds(self):
        for element in (1, 118):
            self.assertEqual(share(element, WATER)[0], 0)
            self.assertEqual(desk.share(element, [], []), faulty(5, 0))

    def both(self, book, molecule, told):
        self.assertEqual(desk.mass(book, molecule), told)
        self.assertEqual(desk.share(8, book, molecule), told)

    def test_both_forms_faulty(self):
        self.both([], [], faulty(5, 0))
        self.both(BOOK + [1], [9], faulty(7, len(BOOK)))
        self.both(book_form([(1, 0, 0)]), molecule_form([atom(0)]), faulty(2, 9))

    def test_forms_exchanged(self):
        self.both(molecule_form(*WATER), BOOK, faulty(1, 2))

    def test_first_form_faulty(self):
        good = molecule_form(*WATER)
        self.both(BOOK[:-1], good, faulty(5, len(BOOK) - 1))
        self.both(BOOK_MARK + [2, 0] + entry_bytes(8, 0, 1) * 2, good, faulty(3, 17))
        self.both([70, 75, 69, 48], good, faulty(1, 3))
        self.both(book_form([(119, 0, 1)]), good, faulty(2, 6))

    def test_second_form_faulty(self):
        good = molecule_form(*WATER)
        wrong_side = molecule_form([atom()] * 3, [(0, 1, 1, 1), (1, 2, 1)])
        for molecule, rule, place in (
                ([], 5, 0), ([71], 1, 0), (good + [0], 7, 12), (good[:-1], 5, 11), (molecule_form([atom(0)]), 2, 6),
                (molecule_form([atom()] * 3, [(0, 2, 1), (0, 1, 1)]), 3, 28), (molecule_form([atom(hand=1)]), 4, 11),
                (wrong_side, 6, 27)):
            self.both(BOOK, molecule, faulty(rule, place, 1))
            self.both(book_form([]), molecule, faulty(rule, place, 1))

    def test_book_without_an_isotope(self):
        self.both(book_without((6, 13)), molecule_form(*HEAVY), [-2])
        self.both(book_without((6, 0)), molecule_form([atom(6, 13), atom(6)]), [-2])
        self.both(BOOK, molecule_form([atom(8, 16)]), [-2])
        self.both(BOOK, molecule_form([atom(118)]), [-2])

    def test_book_without_hydrogen(self):
        self.both(book_without((1, 0)), molecule_form(*WATER), [-2])
        self.both(book_without((1, 0)), molecule_form([atom(1, 2, hydrogens=1)]), [-2])
        self.assertEqual(mass(([atom(8)],), book_without((1, 0))), [0, 15999])

    def test_book_without_a_unit_of_another_element(self):
        self.assertEqual(share(8, WATER, book_without((1, 0))), [-2])
        self.assertEqual(share(1, WATER, book_without((8, 0))), [-2])
        self.assertEqual(share(6, WATER, book_without((8, 0))), [-2])

    def test_empty_book(self):
        self.both(book_form([]), molecule_form(*WATER), [-2])

    def test_share_of_no_atoms(self):
        for element in (1, 8, 118):
            self.assertEqual(share(element, NOTHING), [-2])
            self.assertEqual(share(element, NOTHING, book_form([])), [-2])


class Promises(unittest.TestCase):
    def told(self, molecule):
        return [mass(molecule)] + [share(element, molecule) for element in (1, 6, 7, 8)]

    def test_atoms_in_another_order(self):
        source = random.Random(5)
        for molecule in (ETHANOL, BENZENE, HEAVY):
            for _ in range(20):
                numbers = list(range(len(molecule[0])))
                source.shuffle(numbers)
                self.assertEqual(self.told(renumbered(molecule, numbers)), self.told(molecule))

    def test_redrawn(self):
        atoms, bonds = BENZENE
        for orders in redrawings(len(atoms), bonds):
            redrawn = [(a, b, order) for (a, b, _), order in zip(bonds, orders)]
            self.assertEqual(self.told((atoms, redrawn)), self.told(BENZENE))

    def test_hydrogens_drawn_as_atoms(self):
        drawn = ([atom(1), atom(8), atom(1)], [(0, 1, 1), (1, 2, 1)])
        self.assertEqual(self.told(drawn), self.told(WATER))

    def test_hands_and_sides(self):
        atoms = [atom(6, hydrogens=1), atom(7), atom(8), atom(6, hydrogens=3)]
        bonds = [(0, 1, 1), (0, 2, 1), (0, 3, 1)]
        for hand in (1, 2):
            with_hand = [atom(6, hydrogens=1, hand=hand)] + atoms[1:]
            self.assertEqual(self.told((with_hand, bonds)), self.told((atoms, bonds)))
        chain = [[(0, 1, 1), (1, 2, 2, side), (2, 3, 1)] for side in range(3)]
        for bonds in chain[1:]:
            self.assertEqual(self.told(([atom(6, hydrogens=1)] * 4, bonds)),
                             self.told(([atom(6, hydrogens=1)] * 4, chain[0])))

    def test_what_is_joined_adds_up(self):
        for one, other in itertools.product((WATER, ETHANOL, BENZENE, HEAVY), (WATER, ETHANOL, HEAVY)):
            atoms, bonds = beside(one, other)
            joined = sorted(bonds + [(0, len(one[0]), 1)])
            whole = mass(one)[1] + mass(other)[1]
            for molecule in ((atoms, bonds), (atoms, joined)):
                self.assertEqual(mass(molecule), [0, whole])
                for element in (1, 6, 8):
                    parts = [Fraction(*share(element, part)[1:]) * mass(part)[1] for part in (one, other)]
                    told = Fraction(sum(parts), whole)
                    self.assertEqual(share(element, molecule), [0, told.numerator, told.denominator])

    def test_by_single_units(self):
        source = random.Random(6)
        units = list(itertools.product((1, 6, 8, 118), (0, 1, 2, 500)))
        for _ in range(300):
            chosen = sorted(source.sample(units, source.randint(1, len(units))) + [(1, 0)])
            entries = [(*unit, source.randint(1, source.choice((9, 1000, MOST_MASS)))) for unit in sorted(set(chosen))]
            masses = {entry[:2]: entry[2] for entry in entries}
            atoms = [atom(*source.choice(chosen), 0, source.randint(0, 7)) for _ in range(source.randint(1, 10))]
            molecule = (atoms, [])
            book = book_form(entries)
            self.assertEqual(mass(molecule, book), [0, mass_by_units(molecule, masses)])
            for element in (1, 6, 8, 118, 2):
                self.assertEqual(share(element, molecule, book), share_told(element, molecule, masses))


class Calling(unittest.TestCase):
    def test_greatest_masses_and_counts(self):
        book = book_form([(1, 0, MOST_MASS), (6, 0, MOST_MASS), (8, 0, 1)])
        molecule = ([atom(6, hydrogens=7)] * 10,)
        self.assertEqual(mass(molecule, book), [0, 80 * MOST_MASS])
        self.assertEqual(share(6, molecule, book), [0, 1, 8])
        molecule = ([atom(6, hydrogens=7)] * 9 + [atom(8, hydrogens=7)],)
        self.assertEqual(mass(molecule, book), [0, 79 * MOST_MASS + 1])
        self.assertEqual(share(8, molecule, book), [0, 1, 79 * MOST_MASS + 1])
        molecule = ([atom(6, hydrogens=7)] * 128,)
        self.assertEqual(mass(molecule, book), [0, 1024 * MOST_MASS])

    def test_greatest_inputs_soon(self):
        entries = [(1, 0, MOST_MASS)] + greatest_book()[1:]
        book = book_form(entries)
        bonds = [(a, b, 3) for a in range(10) for b in range(a + 1, 10)][:12]
        molecule = molecule_form([atom(118, 491 + k, 4, 7) for k in range(10)], bonds)
        for call, arguments, told in (
                (desk.mass, (book, molecule), [0, 80 * MOST_MASS]),
                (desk.share, (118, book, molecule), [0, 1, 8]),
                (desk.share, (1, book, molecule), [0, 7, 8]),
                (desk.mass, (book, molecule + [0] * (2000 - len(molecule))), faulty(7, len(molecule), 1)),
                (desk.mass, (book + [0] * (46000 - len(book)), molecule), faulty(7, len(book)))):
            answer, seconds = timed(call, *arguments)
            self.assertEqual(answer, told)
            self.assertLess(seconds, PATIENCE)

    def test_kinds(self):
        for answer in (mass(WATER), mass(NOTHING), share(8, WATER), share(7, WATER), share(0, WATER),
                       desk.mass([], []), share(1, NOTHING)):
            assert_plain(self, answer)

    def test_handed_in_stays_and_nothing_is_kept(self):
        calls = []
        for book in (BOOK, book_form([]), [], BOOK + [1]):
            for molecule in (molecule_form(*ETHANOL), molecule_form(*HEAVY), MOLECULE_MARK + [0, 0], [1]):
                calls.append((desk.mass, book, molecule))
                calls += [(desk.share, element, book, molecule) for element in (0, 1, 6)]
        assert_like_the_first_time(self, calls)


if __name__ == "__main__":
    unittest.main()
