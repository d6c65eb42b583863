"""What the document promises over the whole program: how the calls' answers fit together."""

import itertools
import math
import random
import unittest
from fractions import Fraction

from tests.helper import (
    BENZENE, CARBON, CARBON_DIOXIDE, CARBON_MONOXIDE, ETHANOL, HYDROGEN, LAST, METHANE, MOST_MASS, NOTHING, OXYGEN,
    PATIENCE, PERMANGANATE, WATER, assert_like_the_first_time, atom, book_form, content, copied, drawn_sides,
    equation_form, flat, greatest_book, ion, molecule_form, molecule_of, timed)
from wholeamounts import desk
from wholeamounts.books import read_book
from wholeamounts.equations import read_equation
from wholeamounts.molecules import read_molecule

SIDES = [
    ([HYDROGEN, OXYGEN], [WATER]),
    ([METHANE, OXYGEN], [CARBON_DIOXIDE, WATER]),
    ([CARBON, OXYGEN], [CARBON_MONOXIDE, CARBON_DIOXIDE]),
    ([PERMANGANATE, ion(26, 2), ion(1, 1)], [ion(25, 2), ion(26, 3), WATER]),
    ([WATER, WATER], [WATER, WATER, WATER]),
    ([NOTHING, METHANE], [METHANE]),
]


def fractions_of(answer):
    """The fractions of a row that is told."""
    return [Fraction(*answer[k:k + 2]) for k in range(2, len(answer), 2)]


def drawn_book(source, molecules):
    """A book with a mass for all that the molecules have, and more."""
    units = {unit for molecule in molecules for unit in content(molecule)} - {(0, 0)}
    units |= {(source.randint(1, 118), source.randint(0, 500)) for _ in range(5)}
    most = source.choice((10, 10 ** 6, MOST_MASS))
    return book_form([(*unit, source.randint(1, most)) for unit in sorted(units)])


def mass_on(book, molecules, numbers):
    return sum(number * desk.mass(book, molecule)[1] for molecule, number in zip(molecules, numbers))


class Balanced(unittest.TestCase):
    def drawn_balanced(self, source, count):
        """Drawn equations for which there are balanced numbers, with the least ones."""
        found = []
        while len(found) < count:
            kinds = source.choice(([(1, 0)], [(6, 0)], [(6, 0), (8, 0)], [(6, 0), (6, 13)]))
            sides = drawn_sides(source, kinds, 3, source.choice((0, 3)), source.choice((0, 1)))
            answer = desk.least(equation_form(*sides))
            if answer[0] == 0:
                found.append((*sides, answer[2:]))
        return found

    def test_masses_are_kept_by_every_book(self):
        source = random.Random(25)
        given = [(*sides, desk.least(equation_form(*sides))[2:]) for sides in SIDES]
        for left, right, numbers in given + self.drawn_balanced(source, 100):
            for times in (1, 2, 12345):
                multiple = [times * number for number in numbers]
                self.assertEqual(desk.kept(equation_form(left, right), multiple), [0, 1, 0, 0])
                for _ in range(3):
                    book = drawn_book(source, left + right)
                    on_the_left = mass_on(book, left, multiple)
                    self.assertEqual(on_the_left, mass_on(book, right, multiple[len(left):]))

    def test_numbers_that_some_book_does_not_keep_are_not_told_balanced(self):
        source = random.Random(26)
        for left, right in SIDES:
            form = equation_form(left, right)
            for _ in range(50):
                numbers = [source.randint(1, 3) for _ in left + right]
                book = drawn_book(source, left + right)
                if mass_on(book, left, numbers) != mass_on(book, right, numbers[len(left):]):
                    self.assertEqual(desk.kept(form, numbers)[:2], [0, 0])

    def test_least_kept_and_only_agree(self):
        source = random.Random(27)
        for _ in range(300):
            kinds = source.choice(([(1, 0)], [(6, 0), (8, 0)]))
            form = equation_form(*drawn_sides(source, kinds, 3, 1, 1))
            answer = desk.least(form)
            if answer == [-2]:
                self.assertEqual(desk.only(form), [-2])
            else:
                self.assertEqual(desk.kept(form, answer[2:]), [0, 1, 0, 0])
                self.assertEqual(math.gcd(*answer[2:]), 1)
                self.assertEqual(desk.only(form)[0], 0)

    def test_no_less_sum_is_told_balanced(self):
        for left, right in SIDES[:3] + SIDES[4:]:
            form = equation_form(left, right)
            least = desk.least(form)[2:]
            for numbers in itertools.product(range(1, 6), repeat=len(least)):
                if (sum(numbers), list(numbers)) < (sum(least), least):
                    self.assertEqual(desk.kept(form, list(numbers))[:2], [0, 0])

    def test_where_there_is_one_way_all_are_multiples(self):
        for left, right in SIDES[:2]:
            form = equation_form(left, right)
            least = desk.least(form)[2:]
            self.assertEqual(desk.only(form), [0, 1])
            for numbers in itertools.product(range(1, 7), repeat=len(least)):
                multiple = all(number * least[0] == numbers[0] * one for number, one in zip(numbers, least))
                self.assertEqual(desk.kept(form, list(numbers)) == [0, 1, 0, 0], multiple)


class Amounts(unittest.TestCase):
    def test_what_is_wanted_makes_just_that_and_leaves_nothing(self):
        source = random.Random(28)
        for left, right in SIDES * 20:
            form = equation_form(left, right)
            numbers = desk.least(form)[2:] if source.random() < 0.5 else [source.randint(1, 9) for _ in left + right]
            j = source.randrange(len(right))
            amount = Fraction(source.randint(0, 50), source.randint(1, 50))
            wanted = desk.want(j, amount.numerator, amount.denominator, form, numbers)
            pairs = wanted[2:2 + 2 * len(left)]
            told = fractions_of(desk.most(form, numbers, pairs))
            self.assertEqual(told[1], 0)
            self.assertEqual(told[2:2 + len(left)], [0] * len(left))
            self.assertEqual(told[2 + len(left) + j], amount)
            self.assertEqual(told[2 + len(left):], fractions_of(wanted)[len(left):])

    def test_what_is_made_wants_what_is_used(self):
        source = random.Random(29)
        for left, right in SIDES * 20:
            form = equation_form(left, right)
            numbers = [source.randint(1, 9) for _ in left + right]
            amounts = [Fraction(source.randint(1, 50), source.randint(1, 50)) for _ in left]
            pairs = flat((amount.numerator, amount.denominator) for amount in amounts)
            told = fractions_of(desk.most(form, numbers, pairs))
            rest, made = told[2:2 + len(left)], told[2 + len(left):]
            for j, amount in enumerate(made):
                wanted = fractions_of(desk.want(j, amount.numerator, amount.denominator, form, numbers))
                self.assertEqual([one + more for one, more in zip(wanted, rest)], amounts)
                self.assertEqual(wanted[len(left):], made)

    def test_masses_of_what_is_used_and_made_are_one(self):
        source = random.Random(30)
        for left, right in SIDES:
            form = equation_form(left, right)
            numbers = desk.least(form)[2:]
            book = drawn_book(source, left + right)
            pairs = [source.randint(1, 20) for _ in range(2 * len(left))]
            told = fractions_of(desk.most(form, numbers, pairs))
            used = [Fraction(*pairs[2 * k:2 * k + 2]) - told[2 + k] for k in range(len(left))]
            self.assertEqual(mass_on(book, left, used), mass_on(book, right, told[2 + len(left):]))

    def test_ratio_of_least_numbers_and_of_what_is_wanted(self):
        for left, right in SIDES:
            form = equation_form(left, right)
            answer = desk.least(form)
            self.assertEqual(desk.ratio(flat((number, 1) for number in answer[2:])), answer)
            # What's wanted stands as the numbers do, and so has the same ratio.
            self.assertEqual(desk.ratio(desk.want(0, 5, 7, form, answer[2:])[2:]), answer)

    def test_ratio_of_a_ratio(self):
        source = random.Random(31)
        for _ in range(200):
            told = desk.ratio([source.randint(1, 60) for _ in range(2 * source.randint(0, 4))])
            self.assertEqual(desk.ratio(flat((number, 1) for number in told[2:])), told)

    def test_ratio_of_masses(self):
        # One form for each share: the shares of all elements stand as the elements' masses do.
        book = book_form([(1, 0, 6), (6, 0, 10), (8, 0, 14)])
        shares = flat(desk.share(element, book, molecule_form(*ETHANOL))[1:] for element in (1, 6, 8))
        self.assertEqual(desk.ratio(shares), [0, 3, 18, 10, 7])


def molecule_anew(molecule):
    atoms = [atom(one.element, one.isotope, one.charge, one.hydrogens, one.hand) for one in molecule.atoms]
    return molecule_form(atoms, [(bond.a, bond.b, bond.order, bond.side) for bond in molecule.bonds])


def equation_anew(equation):
    return equation_form([molecule_anew(one) for one in equation.left], [molecule_anew(one) for one in equation.right])


class OneForm(unittest.TestCase):
    """A form that is taken is the only one of what it says: written anew, it is the same byte by byte."""

    def changed_forms(self, source, form, count):
        for _ in range(count):
            changed = list(form)
            for _ in range(source.randint(1, 2)):
                change = source.random()
                place = source.randrange(len(changed))
                if change < 0.8:
                    changed[place] = source.choice((0, 1, 2, 3, 4, 6, 8, source.randint(0, 255)))
                elif change < 0.9:
                    changed.insert(place, source.choice((0, 1, 70)))
                else:
                    changed.pop(place)
            yield changed

    def compare(self, seed, forms, call, read, written_anew):
        source = random.Random(seed)
        taken = 0
        for form in forms:
            self.assertEqual(written_anew(read(form)), form)
            for changed in self.changed_forms(source, form, 1000):
                if call(changed)[0] == 0:
                    self.assertEqual(written_anew(read(changed)), changed)
                    taken += changed != form
        self.assertGreater(taken, 100)

    def test_books(self):
        books = [book_form([]), book_form([(1, 0, 6), (1, 2, 7), (6, 0, MOST_MASS), (118, 500, 1)])]
        self.compare(32, books, desk.book, read_book, book_form)

    def test_molecules(self):
        alanine = molecule_form(
            [atom(6, hydrogens=3), atom(6, hydrogens=1, hand=1), atom(7, hydrogens=2), atom(6), atom(8),
             atom(8, 18, -1)],
            [(0, 1, 1), (1, 2, 1), (1, 3, 1), (3, 4, 2), (3, 5, 1)])
        butene = molecule_form([atom(6, hydrogens=1)] * 4, [(0, 1, 1), (1, 2, 2, 1), (2, 3, 1)])
        molecules = [NOTHING, WATER, molecule_form(*BENZENE), alanine, butene]
        self.compare(33, molecules, desk.formula, read_molecule, molecule_anew)

    def test_equations(self):
        forms = [equation_form(*sides) for sides in SIDES]
        self.compare(34, forms, desk.equation, read_equation, equation_anew)


class Calling(unittest.TestCase):
    def greatest_calls(self):
        """Every call with inputs as great as the interface lets be handed in."""
        book = book_form([(1, 0, MOST_MASS)] + greatest_book()[1:])
        pairs = list(itertools.combinations(range(10), 2))[:12]
        molecule = molecule_form([atom(118, 491 + k, 4, 7) for k in range(10)], [pair + (2,) for pair in pairs])
        bonds = [(0, k, 1) for k in range(1, 128)] + [(k, k + 1, 2, 1) for k in range(1, 127, 2)]
        large = molecule_form([atom(118, 500, -4, 0)] * 128, sorted(bonds))
        sides = equation_form([large] * 8, [large] * 8)
        small = equation_form(
            [molecule_of({(6, 0): 6}, 1, -5), molecule_of({(7, 0): 6}, 42, -24),
             molecule_of({(7, 0): 1, (8, 0): 3, (1, 0): 2}, 42, 24)],
            [molecule_of({(6, 0): 5, (1, 0): 1}, 42, -16), molecule_of({(8, 0): 6}, 11, -20),
             molecule_of({(6, 0): 1, (7, 0): 4, (8, 0): 1}, 0, 24)])
        numbers = [LAST - k for k in range(100)]
        fractions = [LAST - k for k in range(200)]
        return [
            (desk.book, book), (desk.book, book + [0] * (46000 - len(book))), (desk.formula, molecule),
            (desk.formula, molecule + [0] * (2000 - len(molecule))), (desk.mass, book, molecule),
            (desk.share, 118, book, molecule), (desk.share, LAST, book, molecule), (desk.ratio, fractions),
            (desk.ratio, [LAST] * 200), (desk.equation, sides), (desk.equation, sides + [0] * (30000 - len(sides))),
            (desk.kept, sides, numbers[:16]), (desk.kept, sides, numbers), (desk.kept, sides, [LAST] * 16),
            (desk.least, small), (desk.least, small + [0] * (300 - len(small))), (desk.only, small),
            (desk.most, sides, numbers[:16], fractions[:16]), (desk.most, sides, numbers, fractions),
            (desk.want, 7, LAST, LAST - 1, sides, numbers[:16]), (desk.want, LAST, LAST, LAST, sides, numbers),
        ]

    def test_soon_at_the_greatest_inputs(self):
        for call, *arguments in self.greatest_calls():
            _, seconds = timed(call, *arguments)
            self.assertLess(seconds, PATIENCE, call)

    def test_handed_in_stays_and_nothing_is_kept_whatever_is_called_between(self):
        source = random.Random(35)
        book = book_form([(1, 0, 6), (6, 0, 10), (8, 0, 14)])
        calls = self.greatest_calls()
        for left, right in SIDES:
            form = equation_form(left, right)
            numbers = [source.randint(1, 5) for _ in left + right]
            fractions = [source.randint(0, 9) for _ in range(2 * len(left))]
            calls += [
                (desk.formula, left[0]), (desk.mass, book, right[0]), (desk.share, 8, book, left[-1]),
                (desk.ratio, fractions), (desk.equation, form), (desk.kept, form, numbers), (desk.least, form),
                (desk.only, form), (desk.most, form, numbers, fractions), (desk.want, 0, 3, 4, form, numbers)]
        calls += [(desk.book, []), (desk.book, book), (desk.least, [70]), (desk.want, 0, 1, 0, [], [])]
        source.shuffle(calls)
        assert_like_the_first_time(self, calls)

    def test_one_list_handed_in_twice(self):
        row = [1, 1]
        form = equation_form([WATER], [WATER])
        self.assertEqual(desk.most(form, row, row), [0, 8, 1, 1, 0, 1, 0, 1, 1, 1])
        self.assertEqual(row, [1, 1])

    def test_answers_are_the_caller_s_own(self):
        for call, *arguments in self.greatest_calls()[7:9] + [(desk.least, equation_form(*SIDES[0]))]:
            before = copied(arguments)
            first = call(*arguments)
            for argument in arguments:
                self.assertIsNot(first, argument)
            first.clear()
            self.assertEqual(arguments, before)


class Interface(unittest.TestCase):
    def test_names_and_arguments(self):
        arguments = {
            "book": ("entries",), "formula": ("molecule",), "mass": ("entries", "molecule"),
            "share": ("element", "entries", "molecule"), "ratio": ("fractions",), "equation": ("sides",),
            "kept": ("sides", "numbers"), "least": ("sides",), "only": ("sides",),
            "most": ("sides", "numbers", "fractions"),
            "want": ("j", "numerator", "denominator", "sides", "numbers")}
        for name, parameters in arguments.items():
            code = getattr(desk, name).__code__
            self.assertEqual(code.co_varnames[:code.co_argcount], parameters)

    def test_called_by_the_arguments_names(self):
        form = equation_form(*SIDES[0])
        self.assertEqual(desk.want(j=0, numerator=3, denominator=1, sides=form, numbers=[2, 1, 2]),
                         desk.want(0, 3, 1, form, [2, 1, 2]))
        self.assertEqual(desk.most(sides=form, numbers=[2, 1, 2], fractions=[1, 1, 1, 1]),
                         desk.most(form, [2, 1, 2], [1, 1, 1, 1]))
        self.assertEqual(desk.share(element=1, entries=book_form([]), molecule=NOTHING), [-2])


if __name__ == "__main__":
    unittest.main()
