"""Promise 3 on ordinary inputs: which threads there are, and in which order their firsts are told."""

import unittest

from letterlists import listed, told
from letterthreadsdesk.threads import thread, threads


class Ordinary(unittest.TestCase):
    def test_one_letter(self):
        self.assertEqual(threads([5, 9, 0]), [1, 5])

    def test_one_thread_of_several(self):
        letters = listed((1, 10, []), (2, 20, [1]), (3, 30, [1, 2]), (4, 40, [1]))
        self.assertEqual(threads(letters), [1, 1])

    def test_the_greatest_time_first(self):
        letters = listed((1, 20, []), (2, 30, []), (3, 10, []))
        self.assertEqual(threads(letters), [3, 2, 1, 3])

    def test_the_latest_letter_counts_not_the_first(self):
        # 10 is the earliest of all, but 12 in its thread is the latest of all.
        letters = listed((10, 1, []), (20, 50, []), (11, 5, [10]), (12, 90, [11]), (21, 60, [20]))
        self.assertEqual(threads(letters), [2, 10, 20])

    def test_the_latest_letter_counts_wherever_it_stands_in_its_thread(self):
        # The latest of 30's thread is an answer with another one behind it, told neither first nor last.
        letters = listed((30, 1, []), (31, 80, [30]), (32, 2, [31]), (33, 3, [30]), (40, 70, []), (20, 60, []))
        self.assertEqual(threads(letters), [3, 30, 40, 20])

    def test_the_latest_letter_may_be_the_first(self):
        letters = listed((1, 100, []), (2, 5, [1]), (3, 99, []))
        self.assertEqual(threads(letters), [2, 1, 3])

    def test_the_time_counts_not_how_many_a_thread_has(self):
        letters = listed((1, 1, []), (2, 2, [1]), (3, 3, [1]), (4, 4, [1]), (5, 5, []))
        self.assertEqual(threads(letters), [2, 5, 1])

    def test_the_time_counts_not_the_sum_of_times(self):
        letters = listed((1, 30, []), (2, 31, [1]), (3, 32, [1]), (4, 33, []))
        self.assertEqual(threads(letters), [2, 4, 1])

    def test_least_and_greatest_time(self):
        letters = listed((1, 0, []), (2, 4294967294, []), (3, 4294967295, []), (4, 1, []))
        self.assertEqual(threads(letters), [4, 3, 2, 4, 1])

    def test_a_letter_that_names_only_itself_begins_a_thread(self):
        self.assertEqual(threads(listed((5, 1, [5, 5]), (6, 2, [6]))), [2, 6, 5])

    def test_a_letter_belongs_to_the_thread_of_the_last_it_names(self):
        # Were 3 in the thread of 1, that one would be first.
        letters = listed((1, 2, []), (2, 1, []), (3, 3, [1, 2]))
        self.assertEqual(threads(letters), [2, 2, 1])

    def test_one_named_that_is_not_shown_begins_no_thread(self):
        # 8 stands ahead of 2, but 2 is here and answers nothing.
        self.assertEqual(threads(listed((2, 1, []), (3, 2, [8, 2]))), [1, 2])

    def test_one_named_of_which_an_earlier_letter_tells_otherwise_begins_no_thread(self):
        self.assertEqual(threads(listed((1, 10, [20, 9]), (2, 5, [30, 9]))), [1, 30])


class BesideThread(unittest.TestCase):
    LETTERS = listed(
        (40, 300, [10, 20]),
        (10, 100, []),
        (70, 50, []),
        (60, 400, [10, 30, 99]),
        (80, 500, [90]),
        (20, 200, [10]),
        (30, 150, [10]),
    )

    def test_firsts(self):
        self.assertEqual(threads(self.LETTERS), [3, 90, 10, 70])

    def test_thread_answers_as_before(self):
        expected = {
            90: told((0, 90, 0), (1, 80, 1)),
            10: told((0, 10, 1), (1, 30, 1), (2, 99, 0), (3, 60, 1), (1, 20, 1), (2, 40, 1)),
            70: told((0, 70, 1)),
        }
        for first, answer in expected.items():
            self.assertEqual(thread(first, self.LETTERS), answer)
            threads(self.LETTERS)
            self.assertEqual(thread(first, self.LETTERS), answer)
        self.assertEqual(thread(71, self.LETTERS), [-2])


if __name__ == "__main__":
    unittest.main()
