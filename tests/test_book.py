import itertools
import unittest

from tests.helper import (
    BOOK_MARK, MOST_MASS, PATIENCE, assert_like_the_first_time, assert_plain, book_form, entry_bytes, faulty,
    greatest_book, low_first, timed)
from wholeamounts import desk

SEVERAL = [(1, 0, 1008), (1, 2, 2014), (6, 0, 12011), (6, 13, 13003), (118, 500, MOST_MASS)]


class Ordinary(unittest.TestCase):
    def test_empty(self):
        self.assertEqual(desk.book(BOOK_MARK + [0, 0]), [0, 0])

    def test_one_entry(self):
        self.assertEqual(desk.book([70, 75, 69, 49, 1, 0, 8, 0, 0, 128, 62, 0, 0, 0, 0, 0, 0]), [0, 1])

    def test_several_entries(self):
        self.assertEqual(desk.book(book_form(SEVERAL)), [0, 5])

    def test_count_of_two_bytes(self):
        entries = [(6, isotope, 1) for isotope in range(300)]
        self.assertEqual(desk.book(book_form(entries)), [0, 300])

    def test_least_and_greatest_values(self):
        for entry in [(1, 0, 1), (118, 0, 1), (1, 500, 1), (1, 0, MOST_MASS), (118, 500, MOST_MASS)]:
            self.assertEqual(desk.book(book_form([entry])), [0, 1], entry)

    def test_kinds(self):
        for form in (book_form(SEVERAL), []):
            assert_plain(self, desk.book(form))


class Mark(unittest.TestCase):
    def test_each_byte(self):
        for place in range(4):
            for byte in (0, BOOK_MARK[place] - 1, BOOK_MARK[place] + 1, 255):
                form = book_form(SEVERAL)
                form[place] = byte
                self.assertEqual(desk.book(form), faulty(1, place))

    def test_marks_of_other_forms(self):
        for letter in (77, 81):
            self.assertEqual(desk.book([70, 75, letter, 49, 0, 0]), faulty(1, 2))

    def test_first_wrong_byte_is_told(self):
        self.assertEqual(desk.book([70, 0, 0, 0, 0, 0]), faulty(1, 1))

    def test_wrong_byte_ahead_of_the_end(self):
        self.assertEqual(desk.book([71]), faulty(1, 0))
        self.assertEqual(desk.book([70, 75, 68]), faulty(1, 2))


class Bounds(unittest.TestCase):
    def second_entry(self, entry):
        return desk.book(book_form([(1, 0, 1), entry]))

    def test_count(self):
        self.assertEqual(desk.book(book_form(greatest_book())), [0, 4096])
        for count in (4097, 4352, 65535):
            self.assertEqual(desk.book(BOOK_MARK + low_first(count, 2)), faulty(2, 4))

    def test_element(self):
        self.assertEqual(desk.book(book_form([(0, 0, 1)])), faulty(2, 6))
        for element in (0, 119, 255):
            self.assertEqual(self.second_entry((element, 1, 1)), faulty(2, 17))

    def test_isotope(self):
        self.assertEqual(self.second_entry((2, 500, 1)), [0, 2])
        for isotope in (501, 512, 65535):
            self.assertEqual(self.second_entry((2, isotope, 1)), faulty(2, 18))

    def test_mass(self):
        self.assertEqual(self.second_entry((2, 0, 1)), [0, 2])
        self.assertEqual(self.second_entry((2, 0, MOST_MASS)), [0, 2])
        for mass in (0, MOST_MASS + 1, MOST_MASS + 256, 2 ** 41, 2 ** 64 - 1):
            self.assertEqual(self.second_entry((2, 0, mass)), faulty(2, 20))

    def test_judged_when_all_bytes_are_there(self):
        self.assertEqual(desk.book(BOOK_MARK + [1]), faulty(5, 5))
        self.assertEqual(desk.book(BOOK_MARK + [255]), faulty(5, 5))
        head = BOOK_MARK + [1, 0]
        self.assertEqual(desk.book(head + [1, 255]), faulty(5, 8))
        self.assertEqual(desk.book(head + [1, 255, 255]), faulty(2, 7))
        self.assertEqual(desk.book(head + [1, 0, 0] + [255] * 7), faulty(5, 16))
        self.assertEqual(desk.book(head + [1, 0, 0] + [0] * 7), faulty(5, 16))
        self.assertEqual(desk.book(head + [1, 0, 0] + [0] * 8), faulty(2, 9))


class Rising(unittest.TestCase):
    def test_same_entry_again(self):
        self.assertEqual(desk.book(book_form([(6, 13, 5), (6, 13, 6)])), faulty(3, 17))

    def test_element_falls(self):
        self.assertEqual(desk.book(book_form([(6, 0, 5), (5, 500, 5)])), faulty(3, 17))

    def test_isotope_falls(self):
        self.assertEqual(desk.book(book_form([(6, 256, 5), (6, 255, 5)])), faulty(3, 17))

    def test_isotopes_are_whole_numbers_not_bytes(self):
        self.assertEqual(desk.book(book_form([(6, 255, 5), (6, 256, 5)])), [0, 2])

    def test_isotope_may_fall_with_the_next_element(self):
        self.assertEqual(desk.book(book_form([(6, 500, 5), (7, 0, 5)])), [0, 2])

    def test_third_entry(self):
        self.assertEqual(desk.book(book_form([(1, 0, 1), (2, 0, 1), (1, 1, 1)])), faulty(3, 28))

    def test_asked_when_element_and_isotope_are_read(self):
        head = BOOK_MARK + [2, 0] + entry_bytes(6, 13, 5)
        self.assertEqual(desk.book(head + [6]), faulty(5, 18))
        self.assertEqual(desk.book(head + [5, 0]), faulty(5, 19))
        self.assertEqual(desk.book(head + [6, 13, 0]), faulty(3, 17))
        self.assertEqual(desk.book(head + entry_bytes(6, 13, 0)), faulty(3, 17))
        self.assertEqual(desk.book(head + entry_bytes(5, 501, 1)), faulty(2, 18))


class Ends(unittest.TestCase):
    def test_cut_off_at_each_byte(self):
        for entries in ([], SEVERAL):
            form = book_form(entries)
            for cut in range(len(form)):
                self.assertEqual(desk.book(form[:cut]), faulty(5, cut))

    def test_left_over(self):
        for entries in ([], SEVERAL[:1], SEVERAL):
            form = book_form(entries)
            for more in ([0], [255], [70], entry_bytes(118, 500, 1)):
                self.assertEqual(desk.book(form + more), faulty(7, len(form)))


class Several(unittest.TestCase):
    def test_first_from_the_front(self):
        form = book_form([(1, 0, 0), (1, 0, 1)])
        self.assertEqual(desk.book(form + [9]), faulty(2, 9))
        form = book_form([(2, 0, 1), (1, 0, 0), (119, 0, 1)])
        self.assertEqual(desk.book(form + [9]), faulty(3, 17))
        self.assertEqual(desk.book([70, 75, 69, 50, 255, 255, 0]), faulty(1, 3))
        self.assertEqual(desk.book(BOOK_MARK + [1, 16, 0]), faulty(2, 4))


class OneForm(unittest.TestCase):
    def test_one_order_alone(self):
        for entries in itertools.permutations(SEVERAL[:4]):
            answer = desk.book(book_form(entries))
            if list(entries) == SEVERAL[:4]:
                self.assertEqual(answer, [0, 4])
            else:
                self.assertEqual(answer[:3], [-5, 0, 3])

    def test_another_count_is_another_form(self):
        for count in range(10):
            form = BOOK_MARK + low_first(count, 2) + book_form(SEVERAL)[6:]
            told = [0, 5] if count == 5 else faulty(7, 6 + 11 * count) if count < 5 else faulty(5, len(form))
            self.assertEqual(desk.book(form), told)


class Calling(unittest.TestCase):
    def test_greatest_inputs_soon(self):
        form = book_form(greatest_book())
        answer, seconds = timed(desk.book, form)
        self.assertEqual(answer, [0, 4096])
        self.assertLess(seconds, PATIENCE)
        answer, seconds = timed(desk.book, form + [0] * (46000 - len(form)))
        self.assertEqual(answer, faulty(7, 45062))
        self.assertLess(seconds, PATIENCE)

    def test_last_of_many_entries(self):
        entries = greatest_book()
        entries[-1] = entries[-2]
        self.assertEqual(desk.book(book_form(entries)), faulty(3, 6 + 11 * 4095))

    def test_handed_in_stays_and_nothing_is_kept(self):
        good = book_form(SEVERAL)
        forms = [good, good[:-1], good + [1], []]
        assert_like_the_first_time(self, [(desk.book, form) for form in forms])


if __name__ == "__main__":
    unittest.main()
