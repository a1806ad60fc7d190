"""Promise 2 on ordinary inputs, and the bounds that are allowed."""

import unittest

from letterlists import listed, told
from letterthreadsdesk.threads import thread

SEVERAL = listed(
    (40, 300, [10, 20]),
    (10, 100, []),
    (70, 50, []),
    (60, 400, [10, 30, 99]),
    (20, 200, [10]),
    (50, 250, [10, 20]),
    (30, 150, [10]),
)
SEVERAL_TOLD = told(
    (0, 10, 1),
    (1, 30, 1),
    (2, 99, 0),
    (3, 60, 1),
    (1, 20, 1),
    (2, 50, 1),
    (2, 40, 1),
)


class Ordinary(unittest.TestCase):
    def test_told_alike_from_each_number_in_it(self):
        for i in (10, 20, 30, 40, 50, 60, 99):
            self.assertEqual(thread(i, SEVERAL), SEVERAL_TOLD, i)

    def test_another_thread_among_the_same_letters(self):
        self.assertEqual(thread(70, SEVERAL), told((0, 70, 1)))

    def test_one_letter(self):
        self.assertEqual(thread(5, [5, 9, 0]), [1, 0, 5, 1])

    def test_a_letter_answers_the_last_it_names(self):
        letters = listed((1, 1, []), (2, 2, []), (3, 3, [1, 2]))
        self.assertEqual(thread(3, letters), told((0, 2, 1), (1, 3, 1)))
        self.assertEqual(thread(1, letters), told((0, 1, 1)))

    def test_answers_stand_by_time_not_by_number(self):
        letters = listed((1, 0, []), (2, 30, [1]), (3, 20, [1]), (4, 10, [1]))
        self.assertEqual(thread(1, letters), told((0, 1, 1), (1, 4, 1), (1, 3, 1), (1, 2, 1)))

    def test_each_answer_stands_right_with_all_that_answers_it(self):
        letters = listed((1, 0, []), (2, 10, [1]), (3, 20, [1]), (4, 90, [2]), (5, 95, [4]), (6, 30, [3]))
        self.assertEqual(
            thread(6, letters),
            told((0, 1, 1), (1, 2, 1), (2, 4, 1), (3, 5, 1), (1, 3, 1), (2, 6, 1)),
        )

    def test_one_that_lacks_has_the_earliest_time_of_all_chains_through_it(self):
        # 4 comes to 9 only by way of 3, and is written before 2.
        letters = listed((1, 0, []), (2, 50, [1]), (3, 100, [1, 9]), (4, 20, [3]))
        self.assertEqual(
            thread(9, letters),
            told((0, 1, 1), (1, 9, 0), (2, 3, 1), (3, 4, 1), (1, 2, 1)),
        )

    def test_a_letter_that_is_here_has_its_own_time(self):
        # 3 is answered by one that is earlier than 2, which doesn't make 3 the earlier.
        letters = listed((1, 0, []), (2, 50, [1]), (3, 100, [1]), (4, 20, [3]))
        self.assertEqual(thread(1, letters), told((0, 1, 1), (1, 2, 1), (1, 3, 1), (2, 4, 1)))

    def test_several_that_lack_one_behind_another(self):
        letters = listed((5, 1, [1, 2, 3, 4]))
        self.assertEqual(thread(2, letters), told((0, 1, 0), (1, 2, 0), (2, 3, 0), (3, 4, 0), (4, 5, 1)))


class Bounds(unittest.TestCase):
    def test_sixteen_letters(self):
        letters = listed(*[(number, number, [1]) for number in range(1, 17)])
        rows = [(0, 1, 1)] + [(1, number, 1) for number in range(2, 17)]
        self.assertEqual(thread(16, letters), told(*rows))

    def test_sixteen_letters_that_name_four_each(self):
        letters = listed(*[(number, number, [101, 102, 103, 104]) for number in range(1, 17)])
        rows = [(0, 101, 0), (1, 102, 0), (2, 103, 0), (3, 104, 0)]
        rows += [(4, number, 1) for number in range(1, 17)]
        self.assertEqual(thread(104, letters), told(*rows))

    def test_least_and_greatest_number(self):
        self.assertEqual(thread(1, listed((1, 5, [65535]))), told((0, 65535, 0), (1, 1, 1)))
        self.assertEqual(thread(65535, listed((65535, 5, [1]))), told((0, 1, 0), (1, 65535, 1)))

    def test_least_and_greatest_time(self):
        letters = listed((1, 7, []), (2, 4294967295, [1]), (3, 0, [1]), (4, 4294967294, [1]))
        self.assertEqual(thread(1, letters), told((0, 1, 1), (1, 3, 1), (1, 4, 1), (1, 2, 1)))


if __name__ == "__main__":
    unittest.main()
