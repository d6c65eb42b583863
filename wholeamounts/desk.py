"""The calls. Each takes forms and numbers and answers one list of whole numbers."""

from wholeamounts.amounts import most_row, want_row
from wholeamounts.balance import Balance, is_only_way, kept_row, refuse_numbers
from wholeamounts.books import read_book
from wholeamounts.equations import read_equation
from wholeamounts.formulas import formula_row
from wholeamounts.least import least_balanced
from wholeamounts.masses import mass_of, share_of
from wholeamounts.molecules import read_molecule
from wholeamounts.reading import MOST_ELEMENT
from wholeamounts.refusals import Fault, NotThere, TooGreat, WrongNumbers
from wholeamounts.terms import MOST_TOLD, least_ratio, lowest, paired, refuse_above

ANSWERED = 0
WRONG_NUMBERS = -1
NOT_THERE = -2
FAULTY_FORM = -5
TOO_GREAT = -6

MOST_LEAST = 4294967295


def book(entries):
    """How many entries a book has."""
    return answer(lambda: [len(read_book(entries))])


def formula(molecule):
    """A molecule's formula: of each element and isotope these and how many units."""
    return answer(lambda: row(formula_row(read_molecule(molecule))))


def mass(entries, molecule):
    """A molecule's mass by a book."""
    return answer(lambda: tell_mass(entries, molecule))


def tell_mass(entries, molecule):
    listed = read_book(entries)
    drawn = read_second(molecule)
    return [mass_of(drawn, listed)]


def share(element, entries, molecule):
    """An element's share of a molecule's mass by a book: a fraction."""
    return answer(lambda: tell_share(element, entries, molecule))


def tell_share(element, entries, molecule):
    # Told before the forms are looked at.
    if element < 1 or element > MOST_ELEMENT:
        raise WrongNumbers()
    listed = read_book(entries)
    drawn = read_second(molecule)
    return list(share_of(element, drawn, listed))


def ratio(fractions):
    """The least whole numbers that stand to one another as fractions above 0 do."""
    return answer(lambda: tell_ratio(fractions))


def tell_ratio(fractions):
    amounts = paired(fractions)
    if (0, 1) in amounts:
        raise WrongNumbers()
    wholes = least_ratio(amounts)
    refuse_above(MOST_TOLD, wholes)
    return row(wholes)


def equation(sides):
    """How many molecules an equation has on the left, on the right."""
    return answer(lambda: tell_equation(sides))


def tell_equation(sides):
    read = read_equation(sides)
    return [len(read.left), len(read.right)]


def kept(sides, numbers):
    """Whether numbers for an equation are balanced, or what is not kept first."""
    return answer(lambda: tell_kept(sides, numbers))


def tell_kept(sides, numbers):
    read = read_equation(sides)
    refuse_numbers(read, numbers)
    return kept_row(read, numbers)


def least(sides):
    """The least balanced numbers for an equation."""
    return answer(lambda: tell_least(sides))


def tell_least(sides):
    numbers = least_balanced(Balance(read_equation(sides)))
    refuse_above(MOST_LEAST, numbers)
    return row(numbers)


def only(sides):
    """Whether all balanced numbers for an equation are the least's multiples."""
    return answer(lambda: tell_only(sides))


def tell_only(sides):
    return [1 if is_only_way(Balance(read_equation(sides))) else 0]


def most(sides, numbers, fractions):
    """How far it goes with given amounts, what runs out, what's left and what's made: fractions."""
    return answer(lambda: tell_most(sides, numbers, fractions))


def tell_most(sides, numbers, fractions):
    read = read_equation(sides)
    refuse_numbers(read, numbers)
    return fraction_row(most_row(read, numbers, paired(fractions)))


def want(j, numerator, denominator, sides, numbers):
    """Of each molecule, what's wanted for a fraction of the j-th on the right (from 0): fractions."""
    return answer(lambda: tell_want(j, numerator, denominator, sides, numbers))


def tell_want(j, numerator, denominator, sides, numbers):
    # Told before the form is looked at.
    if denominator == 0:
        raise WrongNumbers()
    read = read_equation(sides)
    refuse_numbers(read, numbers)
    return fraction_row(want_row(read, numbers, j, lowest(numerator, denominator)))


def answer(tell):
    """What is told, or the refusal that it ends in."""
    try:
        return [ANSWERED] + tell()
    except Fault as fault:
        return [FAULTY_FORM, fault.which, fault.rule, fault.place]
    except WrongNumbers:
        return [WRONG_NUMBERS]
    except NotThere:
        return [NOT_THERE]
    except TooGreat:
        return [TOO_GREAT]


def row(numbers):
    """A row is told with how many numbers it has ahead of it."""
    return [len(numbers)] + numbers


def fraction_row(fractions):
    """A row of fractions is told with two numbers for each."""
    numbers = []
    for fraction in fractions:
        numbers.extend([fraction[0], fraction[1]])
    refuse_above(MOST_TOLD, numbers)
    return row(numbers)


def read_second(molecule):
    """Read a molecule whose form is the second that was handed in."""
    try:
        return read_molecule(molecule)
    except Fault as fault:
        raise Fault(fault.rule, fault.place, 1) from fault
