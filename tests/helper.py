"""What the tests share: forms made of plain rows, and the document's words gone through by brute force."""

import itertools
import time

BOOK_MARK = [70, 75, 69, 49]
MOLECULE_MARK = [70, 75, 77, 49]
EQUATION_MARK = [70, 75, 81, 49]
MOST_MASS = 2 ** 40
LAST = 2 ** 64 - 1

ETHANOL = ([(6, 0, 0, 3, 0), (6, 0, 0, 2, 0), (8, 0, 0, 1, 0)], [(0, 1, 1), (1, 2, 1)])
BENZENE = ([(6, 0, 0, 1, 0)] * 6,
           [(0, 1, 1), (0, 5, 2), (1, 2, 2), (2, 3, 1), (3, 4, 2), (4, 5, 1)])

# How long a person would wait, in seconds; the calls are meant to take far less.
PATIENCE = 5


def low_first(value, size):
    """A number's bytes, the lowest first."""
    return list(value.to_bytes(size, "little"))


def entry_bytes(element, isotope, mass):
    return [element] + low_first(isotope, 2) + low_first(mass, 8)


def book_form(entries):
    """A book's form; an entry is (element, isotope, mass)."""
    form = BOOK_MARK + low_first(len(entries), 2)
    for entry in entries:
        form += entry_bytes(*entry)
    return form


def greatest_book():
    """As many entries as a book may have, of the greatest elements and masses."""
    pairs = list(itertools.product(range(1, 119), range(501)))
    return [(element, isotope, MOST_MASS) for element, isotope in pairs[-4096:]]


def atom(element=6, isotope=0, charge=0, hydrogens=0, hand=0):
    return (element, isotope, charge, hydrogens, hand)


def molecule_form(atoms, bonds=()):
    """A molecule's form; an atom is made by atom(), a bond is (a, b, order) or (a, b, order, side)."""
    form = MOLECULE_MARK + [len(atoms), len(bonds)]
    for element, isotope, charge, hydrogens, hand in atoms:
        form += [element] + low_first(isotope, 2) + [charge + 4, hydrogens, hand]
    for bond in bonds:
        form += list(bond) + [0] * (4 - len(bond))
    return form


def molecule_of(units, hydrogens=0, charge=0):
    """The form of a molecule without bonds: so many atoms of each (element, isotope), which share what else it has."""
    atoms = []
    for (element, isotope), count in units.items():
        for _ in range(count):
            hanging = min(7, hydrogens)
            part = max(-4, min(4, charge))
            hydrogens -= hanging
            charge -= part
            atoms.append(atom(element, isotope, part, hanging))
    assert hydrogens == 0 and charge == 0
    return molecule_form(atoms)


def ion(element, charge):
    return molecule_form([atom(element, charge=charge)])


NOTHING = MOLECULE_MARK + [0, 0]
HYDROGEN = molecule_form([atom(1, hydrogens=1)])
OXYGEN = molecule_form([atom(8), atom(8)], [(0, 1, 2)])
WATER = molecule_form([atom(8, hydrogens=2)])
CARBON = molecule_form([atom(6)])
METHANE = molecule_form([atom(6, hydrogens=4)])
CARBON_MONOXIDE = molecule_form([atom(6), atom(8)], [(0, 1, 3)])
CARBON_DIOXIDE = molecule_form([atom(6), atom(8), atom(8)], [(0, 1, 2), (0, 2, 2)])
PERMANGANATE = molecule_of({(25, 0): 1, (8, 0): 4}, charge=-1)

# A faulty molecule by each rule of molecules' forms, with the place in its own bytes.
FAULTY_MOLECULES = [
    ([70, 75, 81, 49, 0, 0], 1, 2),
    (MOLECULE_MARK + [129, 0], 2, 4),
    (molecule_form([atom(119)]), 2, 6),
    (molecule_form([atom(6, 501)]), 2, 7),
    (molecule_form([atom(), atom()], [(0, 1, 4)]), 2, 20),
    (molecule_form([atom()] * 3, [(0, 2, 1), (0, 1, 1)]), 3, 28),
    (molecule_form([atom(), atom(hand=2)]), 4, 17),
    ([], 5, 0),
    (MOLECULE_MARK, 5, 4),
    (WATER[:-1], 5, 11),
    (molecule_form([atom()] * 3, [(0, 1, 1), (1, 2, 1, 2)]), 6, 31),
    (WATER + [0], 7, 12),
    (NOTHING + WATER, 7, 6),
]


def equation_form(left, right):
    """An equation's form; each molecule is given by its own form."""
    form = EQUATION_MARK + [len(left), len(right)]
    for molecule in left + right:
        form += low_first(len(molecule), 2) + molecule
    return form


def molecule_places(molecules):
    """Where the forms of an equation's molecules begin."""
    places = []
    place = 6
    for molecule in molecules:
        places.append(place + 2)
        place += 2 + len(molecule)
    return places


def hand_place(number):
    """Where an atom's hand stands in its molecule's form."""
    return 6 + 6 * number + 5


def bond_place(atoms, number, within=0):
    """Where a bond of a molecule of so many atoms stands: its a, or with 1, 2, 3 its b, order, side."""
    return 6 + 6 * atoms + 4 * number + within


def faulty(rule, place, which=0):
    return [-5, which, rule, place]


def content(molecule):
    """What numbers must keep: a molecule's units and, as the unit (0, 0), its charge; it is given by its form."""
    counts = {(0, 0): 0}
    for k in range(molecule[4]):
        element, low, high, charge, hydrogens, _ = molecule[6 + 6 * k:12 + 6 * k]
        counts[(0, 0)] += charge - 4
        for unit, count in (((element, low + 256 * high), 1), ((1, 0), hydrogens)):
            if count:
                counts[unit] = counts.get(unit, 0) + count
    return counts


def surpluses(left, right, numbers):
    """By each unit, and by (0, 0) for charges, how much more of it is on the left than on the right."""
    sums = {}
    for k, molecule in enumerate(left + right):
        for unit, count in content(molecule).items():
            sums[unit] = sums.get(unit, 0) + (1 if k < len(left) else -1) * count * numbers[k]
    return sums


def are_balanced(left, right, numbers):
    return min(numbers) >= 1 and not any(surpluses(left, right, numbers).values())


def rows_of_sum(count, total):
    """All rows of so many numbers of at least 1 with a sum, the first row first."""
    for bars in itertools.combinations(range(1, total), count - 1):
        yield [high - low for low, high in zip((0,) + bars, bars + (total,))]


def least_by_trying(left, right, most):
    """The least balanced numbers of a sum of at most that, found by going through all rows; or None."""
    count = len(left + right)
    contents = [content(molecule) for molecule in left + right]
    units = sorted({unit for counts in contents for unit in counts})
    signed = [[(1 if k < len(left) else -1) * counts.get(unit, 0) for k, counts in enumerate(contents)]
              for unit in units]
    for total in range(count, most + 1):
        for numbers in rows_of_sum(count, total):
            if not any(sum(map(int.__mul__, row, numbers)) for row in signed):
                return numbers
    return None


def drawn_molecule(source, kinds, most_atoms, most_hydrogens, most_charge):
    atoms = []
    for _ in range(source.randint(0, most_atoms)):
        charge = source.randint(-most_charge, most_charge)
        atoms.append(atom(*source.choice(kinds), charge, source.randint(0, most_hydrogens)))
    return molecule_form(atoms)


def drawn_sides(source, *measures):
    left = [drawn_molecule(source, *measures) for _ in range(source.randint(1, 3))]
    right = [drawn_molecule(source, *measures) for _ in range(source.randint(1, 3))]
    return left, right


def flat(fractions):
    """The numbers of fractions that are pairs."""
    return [number for fraction in fractions for number in fraction]


def fractions_told(row):
    """How a row of Python's own fractions is told."""
    return [0, 2 * len(row)] + flat((fraction.numerator, fraction.denominator) for fraction in row)


def redrawings(atoms, bonds):
    """All rows of orders that give each of so many atoms its sum; a bond is (a, b, order, ..)."""
    left = [0] * atoms
    due = [0] * atoms
    for a, b, order in [bond[:3] for bond in bonds]:
        left[a] += order
        left[b] += order
        due[a] += 1
        due[b] += 1
    rows = []
    fill_orders(bonds, left, due, [], rows)
    return rows


def fill_orders(bonds, left, due, orders, rows):
    if len(orders) == len(bonds):
        rows.append(tuple(orders))
        return
    a, b = bonds[len(orders)][:2]
    for order in (1, 2, 3):
        for end in (a, b):
            left[end] -= order
            due[end] -= 1
        if all(due[end] <= left[end] <= 3 * due[end] for end in (a, b)):
            fill_orders(bonds, left, due, orders + [order], rows)
        for end in (a, b):
            left[end] += order
            due[end] += 1


def is_fixed(atoms, bonds, number):
    return len({orders[number] for orders in redrawings(atoms, bonds)}) == 1


def first_hand_fault(atoms, bonds):
    for number, (_, _, _, hydrogens, hand) in enumerate(atoms):
        joined = sum(number in bond[:2] for bond in bonds)
        fits = joined in (3, 4) and hydrogens in (0, 1) and joined + hydrogens in (3, 4)
        if hand and not fits:
            return hand_place(number)
    return None


def first_side_fault(atoms, bonds):
    for number, (a, b, order, side) in enumerate(bonds):
        fits = order == 2
        for end in (a, b):
            others = sum(end in bond[:2] for bond in bonds) - 1
            fits = fits and others in (1, 2) and others + atoms[end][3] <= 2
        if side and not (fits and is_fixed(len(atoms), bonds, number)):
            return bond_place(len(atoms), number, 3)
    return None


def formula_told(atoms, bonds):
    """What formula must answer for a molecule whose numbers are all in bounds and whose bonds rise."""
    place = first_hand_fault(atoms, bonds)
    if place is not None:
        return faulty(4, place)
    place = first_side_fault(atoms, bonds)
    if place is not None:
        return faulty(6, place)
    units = [unit[:2] for unit in atoms]
    for unit in atoms:
        units += [(1, 0)] * unit[3]
    row = []
    for unit in sorted(set(units)):
        row += [unit[0], unit[1], units.count(unit)]
    return [0, len(row)] + row


def timed(call, *arguments):
    """What a call answers, and how many seconds it took."""
    start = time.perf_counter()
    answer = call(*arguments)
    return answer, time.perf_counter() - start


def copied(arguments):
    return [list(argument) if isinstance(argument, list) else argument for argument in arguments]


def assert_like_the_first_time(test, calls):
    """Each call, a row of a function and its arguments, changes none of these and answers as before.

    Between the first time and the second all the other calls are made.
    """
    first = []
    for call, *arguments in calls:
        before = copied(arguments)
        answer = call(*arguments)
        test.assertEqual(arguments, before)
        first.append(list(answer))
        # The caller may do with an answer what it likes.
        answer.append(7)
    for (call, *arguments), told in zip(calls, first):
        before = copied(arguments)
        test.assertEqual(call(*arguments), told)
        test.assertEqual(arguments, before)


def assert_plain(test, answer):
    """An answer is a list of whole numbers, none of them True or False."""
    test.assertIs(type(answer), list)
    for number in answer:
        test.assertIs(type(number), int)


def renumbered(molecule, numbers):
    """The molecule with atom k called numbers[k]; it has no hands, and no sides."""
    atoms, bonds = molecule
    moved = [None] * len(atoms)
    for old, new in enumerate(numbers):
        moved[new] = atoms[old]
    pairs = [sorted((numbers[a], numbers[b])) + [order] for a, b, order in bonds]
    return moved, [tuple(bond) for bond in sorted(pairs)]


def beside(one, other):
    """Both molecules as one, not joined by any bond."""
    shift = len(one[0])
    moved = [(bond[0] + shift, bond[1] + shift) + tuple(bond[2:]) for bond in other[1]]
    return list(one[0]) + list(other[0]), list(one[1]) + moved
