"""The calls. Each takes forms and numbers and answers one list of whole numbers."""

from wholeamounts.books import read_book
from wholeamounts.formulas import formula_row
from wholeamounts.masses import mass_of, share_of
from wholeamounts.molecules import read_molecule
from wholeamounts.reading import MOST_ELEMENT
from wholeamounts.refusals import Fault, NotThere, WrongNumbers

ANSWERED = 0
WRONG_NUMBERS = -1
NOT_THERE = -2
FAULTY_FORM = -5


def book(entries):
    """How many entries a book has."""
    return answer(lambda: [len(read_book(entries))])


def formula(molecule):
    """A molecule's formula: of each element and isotope these and how many units."""
    return answer(lambda: row(formula_row(read_molecule(molecule))))


def mass(entries, molecule):
    """A molecule's mass by a book."""
    return answer(lambda: tell_mass(entries, molecule))


def tell_mass(entries, molecule):
    listed = read_book(entries)
    drawn = read_second(molecule)
    return [mass_of(drawn, listed)]


def share(element, entries, molecule):
    """An element's share of a molecule's mass by a book: a fraction."""
    return answer(lambda: tell_share(element, entries, molecule))


def tell_share(element, entries, molecule):
    # Told before the forms are looked at.
    if element < 1 or element > MOST_ELEMENT:
        raise WrongNumbers()
    listed = read_book(entries)
    drawn = read_second(molecule)
    return list(share_of(element, drawn, listed))


def answer(tell):
    """What is told, or the refusal that it ends in."""
    try:
        return [ANSWERED] + tell()
    except Fault as fault:
        return [FAULTY_FORM, fault.which, fault.rule, fault.place]
    except WrongNumbers:
        return [WRONG_NUMBERS]
    except NotThere:
        return [NOT_THERE]


def row(numbers):
    """A row is told with how many numbers it has ahead of it."""
    return [len(numbers)] + numbers


def read_second(molecule):
    """Read a molecule whose form is the second that was handed in."""
    try:
        return read_molecule(molecule)
    except Fault as fault:
        raise Fault(fault.rule, fault.place, 1) from fault
