"""Promise 1 as far as it speaks of thread, and -2 of promise 2."""

import unittest

from letterlists import listed, told
from letterthreadsdesk.threads import thread


class LettersRefused(unittest.TestCase):
    def refused(self, *letters):
        shown_or_not = [number for number, time, named in letters] + [0, 777, 4294967295]
        for i in shown_or_not:
            self.assertEqual(thread(i, listed(*letters)), [-22], (i, letters))

    def test_seventeen_letters(self):
        self.refused(*[(number, 5, []) for number in range(1, 18)])

    def test_as_many_letters_as_a_list_holds(self):
        self.refused(*[(number, 5, []) for number in range(1, 334)])

    def test_two_with_one_number(self):
        self.refused((3, 1, []), (4, 2, []), (3, 5, [4]))

    def test_two_letters_wholly_alike(self):
        self.refused((3, 1, [4]), (3, 1, [4]))

    def test_five_named(self):
        self.refused((1, 1, []), (9, 1, [1, 2, 3, 4, 5]))

    def test_five_times_one_named(self):
        self.refused((9, 1, [2, 2, 2, 2, 2]))

    def test_five_named_its_own_number_among_them(self):
        self.refused((9, 1, [1, 2, 3, 4, 9]))

    def test_as_many_named_as_a_list_holds(self):
        self.refused((9, 1, list(range(10, 1007))))

    def test_a_letters_number(self):
        for number in (0, 65536, 4294967295):
            self.refused((number, 1, []))
            self.refused((1, 1, []), (number, 1, [1]))

    def test_a_named_number(self):
        for number in (0, 65536, 4294967295):
            self.refused((5, 1, [number]))
            self.refused((1, 1, []), (5, 1, [number, 1]))
            self.refused((1, 1, []), (5, 1, [1, 2, 3, number]))

    def test_a_letter_that_names_its_own_wrong_number(self):
        self.refused((0, 1, [0]))
        self.refused((65536, 1, [65536]))

    def test_a_wrong_letter_behind_sound_ones(self):
        self.refused((1, 1, []), (2, 2, [1]), (3, 3, [65536]))


class NotShown(unittest.TestCase):
    def not_shown(self, i, *letters):
        self.assertEqual(thread(i, listed(*letters)), [-2], (i, letters))

    def test_one_that_no_letter_names(self):
        self.not_shown(7, (1, 1, []), (2, 2, [1]))

    def test_numbers_that_no_letter_can_have(self):
        for i in (0, 65536, 4294967295):
            self.not_shown(i, (1, 1, []), (2, 2, [1, 3]))

    def test_one_named_to_which_no_chain_comes(self):
        # 2 is here and answers nothing, whatever stands ahead of it where 3 names it.
        self.not_shown(8, (2, 1, []), (3, 2, [8, 2]))

    def test_one_named_of_which_an_earlier_letter_tells_otherwise(self):
        self.not_shown(20, (1, 10, [20, 9]), (2, 5, [30, 9]))

    def test_the_letters_refusal_goes_ahead(self):
        self.assertEqual(thread(7, listed((1, 1, []), (1, 2, []))), [-22])
        self.assertEqual(thread(7, listed((1, 1, []), (2, 2, []))), [-2])
        self.assertEqual(thread(2, listed((1, 1, []), (2, 2, []))), told((0, 2, 1)))


if __name__ == "__main__":
    unittest.main()
