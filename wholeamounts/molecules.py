"""Molecules: their atoms and bonds, read from a form that must be well made."""

from wholeamounts.reading import MOST_ELEMENT, MOST_ISOTOPE, NOT_BEHIND, WRONG_HAND, WRONG_SIDE, Reader
from wholeamounts.redrawing import is_fixed_double, ways_at
from wholeamounts.refusals import Fault

MARK = (70, 75, 77, 49)
MOST_ATOMS = 128
MOST_BONDS = 192
MOST_CHARGE = 4
MOST_HYDROGENS = 7
MOST_HAND = 2
MOST_ORDER = 3
MOST_SIDE = 2

# How many bytes of a form stand ahead of the atoms, and how many an atom and a bond have.
HEAD_SIZE = 6
ATOM_SIZE = 6
BOND_SIZE = 4

# Every bond is behind this one, since b is above a.
BEFORE_ALL = (0, 0)


class Atom:
    """An atom; its hydrogens are those that hang on it besides its bonds."""

    def __init__(self, element, isotope, charge, hydrogens, hand):
        self.element = element
        self.isotope = isotope
        self.charge = charge
        self.hydrogens = hydrogens
        self.hand = hand


class Bond:
    """A bond of the atoms a and b, a below b."""

    def __init__(self, a, b, order, side):
        self.a = a
        self.b = b
        self.order = order
        self.side = side


class Molecule:
    """Atoms by their numbers, and bonds rising by their atoms."""

    def __init__(self, atoms, bonds):
        self.atoms = atoms
        self.bonds = bonds


def read_molecule(form):
    """Give the molecule of a form, or raise the fault that is told of it."""
    molecule = read_parts(form)
    neighbours = neighbour_counts(molecule)
    refuse_wrong_hands(molecule, neighbours)
    refuse_wrong_sides(molecule, neighbours)
    return molecule


def read_parts(form):
    """Read a molecule from front to back; where hands and sides may be is not asked yet."""
    reader = Reader(form)
    reader.expect_mark(MARK)
    atom_count = reader.number(1, 0, MOST_ATOMS)
    bond_count = reader.number(1, 0, MOST_BONDS)
    atoms = [read_atom(reader) for k in range(atom_count)]
    bonds = []
    before = BEFORE_ALL
    for k in range(bond_count):
        bond = read_bond(reader, atom_count, before)
        bonds.append(bond)
        before = (bond.a, bond.b)
    reader.finish()
    return Molecule(atoms, bonds)


def read_atom(reader):
    element = reader.number(1, 1, MOST_ELEMENT)
    isotope = reader.number(2, 0, MOST_ISOTOPE)
    charge = reader.number(1, 0, 2 * MOST_CHARGE) - MOST_CHARGE
    hydrogens = reader.number(1, 0, MOST_HYDROGENS)
    hand = reader.number(1, 0, MOST_HAND)
    return Atom(element, isotope, charge, hydrogens, hand)


def read_bond(reader, atom_count, before):
    """Read a bond that must be behind the two atoms of the bond before it."""
    start = reader.place
    a = reader.number(1, 0, atom_count - 1)
    b = reader.number(1, a + 1, atom_count - 1)
    if (a, b) <= before:
        raise Fault(NOT_BEHIND, start)
    order = reader.number(1, 1, MOST_ORDER)
    side = reader.number(1, 0, MOST_SIDE)
    return Bond(a, b, order, side)


def neighbour_counts(molecule):
    """How many neighbours each atom has: as many as bonds, since two atoms have one bond at most."""
    counts = [0 for atom in molecule.atoms]
    for bond in molecule.bonds:
        counts[bond.a] += 1
        counts[bond.b] += 1
    return counts


def refuse_wrong_hands(molecule, neighbours):
    for k, atom in enumerate(molecule.atoms):
        if atom.hand != 0 and not may_have_hand(atom, neighbours[k]):
            raise Fault(WRONG_HAND, HEAD_SIZE + ATOM_SIZE * k + ATOM_SIZE - 1)


def may_have_hand(atom, neighbours):
    return neighbours >= 3 and atom.hydrogens <= 1 and neighbours + atom.hydrogens <= 4


def refuse_wrong_sides(molecule, neighbours):
    first_bond = HEAD_SIZE + ATOM_SIZE * len(molecule.atoms)
    ways = ways_at(len(molecule.atoms), molecule.bonds)
    for k, bond in enumerate(molecule.bonds):
        if bond.side != 0 and not may_have_side(molecule, k, neighbours, ways):
            raise Fault(WRONG_SIDE, first_bond + BOND_SIZE * k + BOND_SIZE - 1)


def may_have_side(molecule, k, neighbours, ways):
    bond = molecule.bonds[k]
    if bond.order != 2:
        return False
    for end in (bond.a, bond.b):
        if not may_end_a_side(molecule.atoms[end], neighbours[end] - 1):
            return False
    # Asked last, since it looks at the whole molecule.
    return is_fixed_double(ways, molecule.bonds, k)


def may_end_a_side(atom, others):
    """Whether an end with so many neighbours besides the other end leaves room for two places alone."""
    return others >= 1 and others + atom.hydrogens <= 2
