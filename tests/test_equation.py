import itertools
import random
import unittest

from tests.helper import (
    BENZENE, EQUATION_MARK, ETHANOL, FAULTY_MOLECULES, HYDROGEN, NOTHING, OXYGEN, PATIENCE, WATER,
    assert_like_the_first_time, assert_plain, atom, equation_form, faulty, low_first, molecule_form, molecule_places,
    timed)
from wholeamounts import desk

GOOD = equation_form([HYDROGEN, OXYGEN], [WATER])


def equation(left, right):
    return desk.equation(equation_form(left, right))


class Ordinary(unittest.TestCase):
    def test_bytes_as_they_stand(self):
        form = [70, 75, 81, 49, 1, 1, 12, 0, 70, 75, 77, 49, 1, 0, 8, 0, 0, 4, 2, 0, 6, 0, 70, 75, 77, 49, 0, 0]
        self.assertEqual(desk.equation(form), [0, 1, 1])

    def test_each_count(self):
        for left, right in itertools.product(range(1, 9), repeat=2):
            self.assertEqual(equation([WATER] * left, [OXYGEN] * right), [0, left, right])

    def test_molecules_without_atoms(self):
        self.assertEqual(equation([NOTHING], [NOTHING, NOTHING]), [0, 1, 2])

    def test_it_need_not_be_possible_to_balance(self):
        self.assertEqual(equation([WATER], [OXYGEN]), [0, 1, 1])
        self.assertEqual(equation([WATER, WATER], [NOTHING]), [0, 2, 1])

    def test_molecules_with_hands_and_sides(self):
        with_hand = molecule_form([atom(hand=1)] + [atom()] * 3, [(0, 1, 1), (0, 2, 1), (0, 3, 1)])
        with_side = molecule_form([atom()] * 4, [(0, 1, 1), (1, 2, 2, 1), (2, 3, 1)])
        self.assertEqual(equation([with_hand, with_side], [with_side]), [0, 2, 1])

    def test_size_of_two_bytes(self):
        large = molecule_form([atom()] * 128, [(k, k + 1, 1) for k in range(127)])
        self.assertGreater(len(large), 1024)
        self.assertEqual(equation([large], [large]), [0, 1, 1])


class Faults(unittest.TestCase):
    def changed(self, place, *numbers):
        form = list(GOOD)
        form[place:place + len(numbers)] = numbers
        return desk.equation(form)

    def test_mark(self):
        for place in range(4):
            for byte in (0, EQUATION_MARK[place] - 1, EQUATION_MARK[place] + 1, 255):
                self.assertEqual(self.changed(place, byte), faulty(1, place))
        for letter in (69, 77):
            self.assertEqual(desk.equation([70, 75, letter, 49, 0, 0]), faulty(1, 2))
        self.assertEqual(desk.equation([71]), faulty(1, 0))

    def test_how_many(self):
        for count in (0, 9, 255):
            self.assertEqual(self.changed(4, count), faulty(2, 4))
            self.assertEqual(self.changed(5, count), faulty(2, 5))
            self.assertEqual(self.changed(4, count, count), faulty(2, 4))
            self.assertEqual(desk.equation(EQUATION_MARK + [count]), faulty(2, 4))
            self.assertEqual(desk.equation(EQUATION_MARK + [1, count]), faulty(2, 5))

    def test_cut_off_at_each_byte(self):
        for form in (GOOD, equation_form([NOTHING], [NOTHING])):
            for cut in range(len(form)):
                self.assertEqual(desk.equation(form[:cut]), faulty(5, cut))

    def test_more_due_than_is_there(self):
        self.assertEqual(self.changed(4, 3), faulty(5, len(GOOD)))
        self.assertEqual(self.changed(5, 8), faulty(5, len(GOOD)))
        self.assertEqual(self.changed(6, 255, 255), faulty(5, len(GOOD)))

    def test_sizes_have_the_lowest_byte_first(self):
        self.assertEqual(self.changed(6, 0, 12), faulty(5, len(GOOD)))
        self.assertEqual(desk.equation(EQUATION_MARK + [1, 1, 0, 1] + NOTHING), faulty(5, 14))

    def test_left_over(self):
        for more in ([0], [70], [255], [0] * 100, low_first(len(WATER), 2) + WATER):
            self.assertEqual(desk.equation(GOOD + more), faulty(7, len(GOOD)))
        self.assertEqual(self.changed(4, 1), faulty(7, len(equation_form([HYDROGEN], [OXYGEN]))))


class FaultyMolecules(unittest.TestCase):
    def test_each_rule_in_each_molecule(self):
        for bad, rule, place in FAULTY_MOLECULES:
            for number in range(5):
                molecules = [HYDROGEN, OXYGEN, WATER, NOTHING, OXYGEN]
                molecules[number] = bad
                start = molecule_places(molecules)[number]
                told = faulty(16 + rule, start + place)
                self.assertEqual(equation(molecules[:2], molecules[2:]), told, (bad, number))

    def test_every_rule_is_among_them(self):
        self.assertEqual({rule for _, rule, _ in FAULTY_MOLECULES}, set(range(1, 8)))

    def test_no_bytes_at_all(self):
        self.assertEqual(desk.equation(EQUATION_MARK + [1, 1, 0, 0]), faulty(21, 8))
        self.assertEqual(equation([WATER], [[]]), faulty(21, 22))

    def test_first_faulty_one_is_told(self):
        for (one, rule, place), (other, _, _) in itertools.product(FAULTY_MOLECULES, repeat=2):
            start = molecule_places([WATER, one, other])[1]
            self.assertEqual(equation([WATER, one], [other]), faulty(16 + rule, start + place))

    def test_ahead_of_bytes_that_end_early(self):
        for bad, rule, place in FAULTY_MOLECULES:
            start = molecule_places([WATER, bad])[1]
            whole = equation_form([WATER, bad], [OXYGEN])
            for cut in range(start + len(bad), len(whole)):
                self.assertEqual(desk.equation(whole[:cut]), faulty(16 + rule, start + place))

    def test_ahead_of_bytes_left_over(self):
        for bad, rule, place in FAULTY_MOLECULES:
            start = molecule_places([WATER, bad])[1]
            self.assertEqual(desk.equation(equation_form([WATER], [bad]) + [1]), faulty(16 + rule, start + place))

    def test_looked_at_only_when_all_of_it_is_there(self):
        for bad, _, _ in FAULTY_MOLECULES:
            whole = equation_form([WATER], [bad])
            for cut in range(len(whole) - len(bad), len(whole)):
                self.assertEqual(desk.equation(whole[:cut]), faulty(5, cut))

    def test_behind_faults_of_the_front(self):
        bad = FAULTY_MOLECULES[0][0]
        form = equation_form([bad], [WATER])
        form[5] = 0
        self.assertEqual(desk.equation(form), faulty(2, 5))
        form[3] = 0
        self.assertEqual(desk.equation(form), faulty(1, 3))

    def test_first_fault_within_a_molecule(self):
        wrong_hand_and_side = molecule_form([atom(hand=1)] + [atom()] * 2, [(0, 1, 1, 1)])
        self.assertEqual(equation([WATER], [wrong_hand_and_side]), faulty(20, 22 + 11))
        self.assertEqual(equation([WATER], [wrong_hand_and_side + [1]]), faulty(23, 22 + 28))


class OneForm(unittest.TestCase):
    def test_another_size_is_another_form(self):
        for size in range(30):
            form = list(GOOD)
            form[6:8] = low_first(size, 2)
            answer = desk.equation(form)
            if size == len(HYDROGEN):
                self.assertEqual(answer, [0, 2, 1])
            else:
                self.assertEqual(answer[:2], [-5, 0])
                self.assertIn(answer[2], (21, 23))

    def test_one_byte_changed(self):
        # What still is an equation is another one: no byte is there to be passed over.
        source = random.Random(10)
        for place in range(len(GOOD)):
            for byte in source.sample(range(256), 12):
                form = list(GOOD)
                form[place] = byte
                answer = desk.equation(form)
                if answer[0] == 0 and form != GOOD:
                    self.assertIn(place, self.free_places())

    def free_places(self):
        """Where atoms' and bonds' numbers stand: those alone can be otherwise."""
        places = []
        for start, size in zip(molecule_places([HYDROGEN, OXYGEN, WATER]), (len(HYDROGEN), len(OXYGEN), len(WATER))):
            places += range(start + 6, start + size)
        return places


class Calling(unittest.TestCase):
    def soon(self, form, told):
        answer, seconds = timed(desk.equation, form)
        self.assertEqual(answer, told)
        self.assertLess(seconds, PATIENCE)

    def test_greatest_molecules(self):
        # 128 atoms and 192 bonds, of which all are of order 3.
        pairs = list(itertools.combinations(range(20), 2)) + [(k, k + 1) for k in range(19, 127)]
        large = molecule_form([atom(118, 500, 4, 7)] * 128, [pair + (3,) for pair in sorted(pairs)[:192]])
        form = equation_form([large] * 8, [large] * 8)
        self.soon(form, [0, 8, 8])
        self.soon(form + [0] * (30000 - len(form)), faulty(7, len(form)))

    def test_many_sides_in_a_chain(self):
        bonds = [(k, k + 1, 2 if k % 2 else 1, k % 2) for k in range(127)]
        large = molecule_form([atom()] * 128, bonds)
        self.soon(equation_form([large] * 8, [large] * 8), [0, 8, 8])

    def test_many_sides_in_odd_rings_with_a_common_atom(self):
        bonds = [(0, k, 1) for k in range(1, 128)] + [(k, k + 1, 2, 1) for k in range(1, 127, 2)]
        large = molecule_form([atom()] * 128, sorted(bonds))
        self.soon(equation_form([large] * 8, [large] * 8), [0, 8, 8])

    def test_many_sides_between_two_odd_rings(self):
        # The bonds between the rings would have to go two steps up or down.
        bonds = [(0, 1, 1), (0, 2, 1), (1, 2, 2), (125, 126, 1), (125, 127, 2), (126, 127, 1)]
        bonds += [(k, k + 1, 2, 1) for k in range(2, 125)]
        large = molecule_form([atom()] * 128, sorted(bonds))
        self.soon(equation_form([large] * 8, [large] * 8), [0, 8, 8])

    def test_many_sides_with_as_many_bonds_as_may_be(self):
        # A ring of 128 with 64 lines across that are doubled, and a side at the last of them.
        bonds = [(k, k + 1, 1) for k in range(127)] + [(0, 127, 1)] + [(k, k + 64, 2) for k in range(64)]
        bonds = sorted(bonds)
        place = [k for k, bond in enumerate(bonds) if bond[2] == 2][-1]
        bonds[place] += (1,)
        large = molecule_form([atom()] * 128, bonds)
        start = molecule_places([WATER, large])[1]
        self.soon(equation_form([WATER], [large]), faulty(22, start + 6 + 6 * 128 + 4 * place + 3))

    def test_kinds(self):
        for form in (GOOD, [], GOOD + [1], equation_form([[]], [[]])):
            assert_plain(self, desk.equation(form))

    def test_handed_in_stays_and_nothing_is_kept(self):
        forms = [GOOD, GOOD[:-1], GOOD + [1], [], equation_form([molecule_form(*ETHANOL)], [molecule_form(*BENZENE)])]
        forms += [equation_form([WATER], [bad]) for bad, _, _ in FAULTY_MOLECULES]
        assert_like_the_first_time(self, [(desk.equation, form) for form in forms])


if __name__ == "__main__":
    unittest.main()
