"""What a molecule is made of."""

HYDROGEN = (1, 0)


def count_units(molecule):
    """How many units there are, by element and isotope."""
    counts = {}
    for atom in molecule.atoms:
        add_units(counts, (atom.element, atom.isotope), 1)
        add_units(counts, HYDROGEN, atom.hydrogens)
    return counts


def add_units(counts, unit, count):
    # A unit that there is none of is not in a formula, not even with 0.
    if count > 0:
        counts[unit] = counts.get(unit, 0) + count


def formula_row(molecule):
    """Of each element and isotope, rising, three numbers: these, how many."""
    counts = count_units(molecule)
    row = []
    for unit in sorted(counts.keys()):
        row.extend([unit[0], unit[1], counts[unit]])
    return row
