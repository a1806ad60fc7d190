"""The edges that the document names under "Where it usually breaks", as threads meets them."""

import unittest

from letterlists import listed
from letterthreadsdesk.threads import threads


class LikeTimes(unittest.TestCase):
    def test_the_lesser_number_first(self):
        letters = listed((5, 7, []), (3, 7, []), (9, 7, []), (4, 7, []))
        self.assertEqual(threads(letters), [4, 3, 4, 5, 9])

    def test_of_latest_letters_the_lesser_first_not_the_lesser_latest_letter(self):
        letters = listed((10, 1, []), (50, 9, [10]), (20, 2, []), (30, 9, [20]))
        self.assertEqual(threads(letters), [2, 10, 20])

    def test_of_latest_letters_the_lesser_first_not_the_earlier_or_later_first(self):
        for one, other in ((1, 2), (2, 1)):
            letters = listed((20, one, []), (30, 9, [20]), (10, other, []), (50, 9, [10]))
            self.assertEqual(threads(letters), [2, 10, 20])

    def test_a_first_that_lacks_beside_one_that_is_here(self):
        self.assertEqual(threads(listed((8, 5, []), (9, 5, [2]))), [2, 2, 8])
        self.assertEqual(threads(listed((8, 5, []), (1, 5, [20]))), [2, 8, 20])

    def test_several_alike_between_a_later_and_an_earlier(self):
        letters = listed((1, 3, []), (6, 5, []), (4, 5, []), (9, 8, []), (5, 2, []), (7, 5, [5]))
        self.assertEqual(threads(letters), [5, 9, 4, 5, 6, 1])

    def test_all_of_time_0(self):
        self.assertEqual(threads(listed((2, 0, []), (1, 0, []), (3, 0, [4]))), [3, 1, 2, 4])


class Lacking(unittest.TestCase):
    def test_a_thread_that_begins_with_one_that_lacks(self):
        self.assertEqual(threads(listed((5, 1, [3]))), [1, 3])

    def test_its_latest_letter_counts_though_its_own_time_is_the_earliest(self):
        letters = listed((5, 1, [3]), (6, 90, [3]), (7, 50, []))
        self.assertEqual(threads(letters), [2, 3, 7])

    def test_several_that_lack_one_behind_another(self):
        self.assertEqual(threads(listed((5, 1, [4, 3, 2, 1]), (9, 2, []))), [2, 9, 4])

    def test_two_threads_that_one_lacking_letter_joins(self):
        letters = listed((5, 2, [3]), (6, 1, [3]), (7, 9, [5]), (8, 4, [6]), (9, 5, []))
        self.assertEqual(threads(letters), [2, 3, 9])

    def test_two_threads_that_are_joined_by_what_a_third_letter_tells(self):
        apart = listed((5, 1, [3]), (2, 5, []))
        self.assertEqual(threads(apart), [2, 2, 3])
        self.assertEqual(threads(apart + listed((6, 8, [2, 3, 4]))), [1, 2])


class Rings(unittest.TestCase):
    def test_of_letters_here(self):
        self.assertEqual(threads(listed((1, 10, [2]), (2, 5, [3]), (3, 20, [1]))), [1, 2])

    def test_of_letters_here_with_like_times(self):
        self.assertEqual(threads(listed((3, 4, [1]), (2, 4, [3]), (1, 4, [2]))), [1, 1])

    def test_an_earlier_letter_off_the_ring_is_not_its_first(self):
        self.assertEqual(threads(listed((4, 1, [5]), (5, 9, [6]), (6, 8, [5]), (7, 2, [6]))), [1, 6])

    def test_the_latest_letter_on_a_ring_counts(self):
        letters = listed((1, 10, [2]), (2, 90, [1]), (3, 50, []))
        self.assertEqual(threads(letters), [2, 1, 3])

    def test_some_of_which_are_not_here(self):
        # 9 -> 2 -> 9, for 7 tells that 2 answers 9: 9 is here, though 2 is the lesser.
        self.assertEqual(threads(listed((9, 50, [2]), (7, 10, [9, 2, 8]))), [1, 9])

    def test_none_of_which_is_here(self):
        # 30 -> 20 by 5, 20 -> 30 by 6.
        self.assertEqual(threads(listed((5, 1, [20, 30]), (6, 2, [30, 20]))), [1, 20])

    def test_none_of_which_is_here_and_one_is_not_shown(self):
        # 20 -> 30 -> 20, and the chain of 5 ends at 20.
        self.assertEqual(threads(listed((5, 1, [20, 30, 20]))), [1, 20])

    def test_of_sixteen(self):
        letters = listed(*[(number, 100 - number, [number % 16 + 1]) for number in range(1, 17)])
        self.assertEqual(threads(letters), [1, 16])

    def test_eight_rings_of_two(self):
        letters = []
        for number in range(1, 17, 2):
            letters += [(number, 50, [number + 1]), (number + 1, number, [number])]
        # The even ones are the earlier of each two; the odd ones, the latest, have like times.
        self.assertEqual(threads(listed(*letters)), [8, 2, 4, 6, 8, 10, 12, 14, 16])


class Others(unittest.TestCase):
    def test_no_letters(self):
        self.assertEqual(threads([]), [0])

    def test_a_deep_one(self):
        letters = [(1, 1, [201, 202, 203, 204])]
        for number in range(2, 16):
            letters.append((number, number, [number - 1, 1000 + number, 2000 + number, 3000 + number]))
        self.assertEqual(threads(listed(*letters, (16, 14, []))), [2, 201, 16])
        self.assertEqual(threads(listed(*letters, (16, 15, []))), [2, 16, 201])
        self.assertEqual(threads(listed(*letters, (16, 16, []))), [2, 16, 201])

    def test_answers_written_before_what_they_answer(self):
        letters = listed((1, 100, []), (2, 50, [1]), (3, 10, [2]), (4, 90, []), (5, 95, [4]))
        self.assertEqual(threads(letters), [2, 1, 4])


if __name__ == "__main__":
    unittest.main()
