"""What a molecule weighs by a book, and an element's share of that."""

from wholeamounts.formulas import count_units
from wholeamounts.refusals import NotThere
from wholeamounts.terms import lowest


def mass_of(molecule, entries):
    """The sum of the masses of a molecule's units by a book's entries."""
    return sum(unit_masses(molecule, entries).values())


def share_of(element, molecule, entries):
    """The share of an element, of whatever isotope, in a molecule's mass."""
    masses = unit_masses(molecule, entries)
    whole = sum(masses.values())
    # Every entry's mass is above 0: only a molecule without atoms weighs nothing.
    if whole == 0:
        raise NotThere()
    part = sum([mass for unit, mass in masses.items() if unit[0] == element])
    return lowest(part, whole)


def unit_masses(molecule, entries):
    """By each element and isotope of a molecule, the mass of all its units of that."""
    single = {}
    for element, isotope, mass in entries:
        single[(element, isotope)] = mass
    masses = {}
    for unit, count in count_units(molecule).items():
        if unit not in single:
            raise NotThere()
        masses[unit] = count * single[unit]
    return masses
