"""What numbers for an equation keep, and whether there are balanced ones."""

from wholeamounts.cones import crossed
from wholeamounts.formulas import count_units
from wholeamounts.lattices import kept_by
from wholeamounts.refusals import NotThere, WrongNumbers
from wholeamounts.rows import product, single_rows


class Balance:
    """What balanced numbers are found by.

    The rows are those whose product with balanced numbers must be 0, without such as follow from others. The
    basis is that of all whole numbers, also below 1, for which it is.
    """

    def __init__(self, equation):
        self.count = len(equation.left) + len(equation.right)
        self.rows = []
        self.basis = single_rows(self.count)
        for row in all_rows(equation):
            kept = kept_by(self.basis, row)
            if len(kept) < len(self.basis):
                self.rows.append(row)
                self.basis = kept


def signed_molecules(equation):
    """Each molecule with 1 if it's on the left, -1 if it's on the right."""
    return [(molecule, 1) for molecule in equation.left] + [(molecule, -1) for molecule in equation.right]


def unit_rows(equation):
    """By each element and isotope, how many units of it each molecule has; those on the right below 0."""
    molecules = signed_molecules(equation)
    rows = {}
    for k, signed in enumerate(molecules):
        for unit, count in count_units(signed[0]).items():
            if unit not in rows:
                rows[unit] = [0 for molecule in molecules]
            rows[unit][k] = signed[1] * count
    return rows


def charge_row(equation):
    """Each molecule's charge; those on the right with the other sign."""
    return [sign * sum([atom.charge for atom in molecule.atoms]) for molecule, sign in signed_molecules(equation)]


def all_rows(equation):
    units = unit_rows(equation)
    return [units[unit] for unit in sorted(units.keys())] + [charge_row(equation)]


def refuse_numbers(equation, numbers):
    """Numbers must be one for each molecule, and none of them 0."""
    if len(numbers) != len(equation.left) + len(equation.right) or 0 in numbers:
        raise WrongNumbers()


def kept_row(equation, numbers):
    """1, 0, 0 if the numbers are balanced; else 0 and the element and isotope that's not kept, 0, 0 for charges."""
    units = unit_rows(equation)
    for unit in sorted(units.keys()):
        if product(units[unit], numbers) != 0:
            return [0, unit[0], unit[1]]
    if product(charge_row(equation), numbers) != 0:
        return [0, 0, 0]
    return [1, 0, 0]


def some_balanced(balance):
    """Balanced numbers, though not the least: the sum of all edges of the cone that balanced numbers lie in."""
    edges = single_rows(balance.count)
    for row in balance.rows:
        edges = crossed(edges, row)
    numbers = [sum([edge[k] for edge in edges]) for k in range(balance.count)]
    # Where no edge has a number at a place, nothing in the cone has one.
    if 0 in numbers:
        raise NotThere()
    return numbers


def is_only_way(balance):
    """Whether all balanced numbers are multiples of the least ones, or a refusal where there are none.

    They are if a basis of one row is enough. If it takes more, balanced numbers can be taken so many times that
    all are still above 0 when any row of the lattice is added, also one that is none of their multiples.
    """
    some_balanced(balance)
    return len(balance.basis) == 1
