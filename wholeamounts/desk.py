"""The calls. Each takes forms and numbers and answers one list of whole numbers."""

from wholeamounts.books import read_book
from wholeamounts.formulas import formula_row
from wholeamounts.molecules import read_molecule
from wholeamounts.reading import Fault

ANSWERED = 0
FAULTY_FORM = -5


def book(entries):
    """How many entries a book has."""
    try:
        listed = read_book(entries)
    except Fault as fault:
        return faulty_form(0, fault)
    return [ANSWERED, len(listed)]


def formula(molecule):
    """A molecule's formula: of each element and isotope these and how many units."""
    try:
        drawn = read_molecule(molecule)
    except Fault as fault:
        return faulty_form(0, fault)
    return told_row(formula_row(drawn))


def faulty_form(which, fault):
    return [FAULTY_FORM, which, fault.rule, fault.place]


def told_row(row):
    return [ANSWERED, len(row)] + row
