"""Promise 1, which holds for both calls, and just inside each of its bounds."""

import unittest

from letterlists import listed
from letterthreadsdesk.threads import thread, threads


class LettersRefused(unittest.TestCase):
    def refused(self, *letters):
        self.assertEqual(threads(listed(*letters)), [-22], letters)
        shown_or_not = [number for number, time, named in letters] + [0, 777, 4294967295]
        for i in shown_or_not:
            self.assertEqual(thread(i, listed(*letters)), [-22], (i, letters))

    def test_seventeen_letters(self):
        self.refused(*[(number, 5, []) for number in range(1, 18)])

    def test_seventeen_letters_in_one_thread(self):
        self.refused(*[(number, 5, [1]) for number in range(1, 18)])

    def test_as_many_letters_as_a_list_holds(self):
        self.refused(*[(number, 5, []) for number in range(1, 334)])

    def test_two_with_one_number(self):
        self.refused((3, 1, []), (4, 2, []), (3, 5, [4]))

    def test_two_letters_wholly_alike(self):
        self.refused((3, 1, [4]), (3, 1, [4]))

    def test_five_named(self):
        self.refused((1, 1, []), (9, 1, [1, 2, 3, 4, 5]))

    def test_five_times_one_named(self):
        self.refused((9, 1, [2, 2, 2, 2, 2]))

    def test_five_named_its_own_number_among_them(self):
        self.refused((9, 1, [1, 2, 3, 4, 9]))

    def test_as_many_named_as_a_list_holds(self):
        self.refused((9, 1, list(range(10, 1007))))

    def test_a_letters_number(self):
        for number in (0, 65536, 4294967295):
            self.refused((number, 1, []))
            self.refused((1, 1, []), (number, 1, [1]))

    def test_a_named_number(self):
        for number in (0, 65536, 4294967295):
            self.refused((5, 1, [number]))
            self.refused((1, 1, []), (5, 1, [number, 1]))
            self.refused((1, 1, []), (5, 1, [1, 2, 3, number]))

    def test_a_letter_that_names_its_own_wrong_number(self):
        self.refused((0, 1, [0]))
        self.refused((65536, 1, [65536]))

    def test_a_wrong_letter_behind_sound_ones(self):
        self.refused((1, 1, []), (2, 2, [1]), (3, 3, [65536]))


class JustInside(unittest.TestCase):
    def answered(self, firsts, *letters):
        self.assertEqual(threads(listed(*letters)), [len(firsts)] + firsts, letters)
        for first in firsts:
            self.assertEqual(thread(first, listed(*letters))[1:3], [0, first], letters)

    def test_sixteen_letters(self):
        self.answered(list(range(1, 17)), *[(number, 5, []) for number in range(1, 17)])

    def test_four_named(self):
        self.answered([1], (9, 1, [1, 2, 3, 4]))

    def test_four_named_its_own_number_among_them(self):
        self.answered([1], (9, 1, [1, 2, 3, 9]))

    def test_four_times_one_named(self):
        self.answered([2], (9, 1, [2, 2, 2, 2]))

    def test_sixteen_letters_that_name_four_each(self):
        letters = [(number, number, [100 + number, 200, 300, 400]) for number in range(1, 17)]
        self.answered([101], *letters)

    def test_least_and_greatest_number_of_a_letter(self):
        self.answered([1, 65535], (65535, 5, []), (1, 5, []))

    def test_least_and_greatest_named_number(self):
        self.answered([1, 65535], (7, 5, [65535]), (8, 5, [1]))

    def test_numbers_one_apart(self):
        self.answered([3, 4], (3, 1, []), (4, 1, []))

    def test_a_number_that_is_named_twice_over_is_no_second_letter(self):
        self.answered([3], (3, 1, []), (4, 1, [3]), (5, 1, [3, 4]))


if __name__ == "__main__":
    unittest.main()
