"""The edges that the document names under "Where it usually breaks"."""

import unittest

from letterlists import listed, told
from letterthreadsdesk.threads import thread


class LikeTimes(unittest.TestCase):
    def test_the_lesser_number_first(self):
        letters = listed((1, 7, []), (5, 7, [1]), (3, 7, [1]), (4, 7, [1]))
        self.assertEqual(thread(1, letters), told((0, 1, 1), (1, 3, 1), (1, 4, 1), (1, 5, 1)))

    def test_one_that_lacks_beside_one_that_is_here(self):
        letters = listed((1, 0, []), (8, 5, [1]), (9, 5, [1, 2]))
        self.assertEqual(thread(1, letters), told((0, 1, 1), (1, 2, 0), (2, 9, 1), (1, 8, 1)))
        letters = listed((1, 0, []), (8, 5, [1]), (7, 5, [1, 20]))
        self.assertEqual(thread(1, letters), told((0, 1, 1), (1, 8, 1), (1, 20, 0), (2, 7, 1)))

    def test_two_that_lack(self):
        letters = listed((5, 3, [1, 30]), (6, 3, [1, 20]))
        self.assertEqual(thread(1, letters), told((0, 1, 0), (1, 20, 0), (2, 6, 1), (1, 30, 0), (2, 5, 1)))


class Lacking(unittest.TestCase):
    def test_a_thread_that_begins_with_one_that_lacks(self):
        letters = listed((5, 1, [3]))
        for i in (3, 5):
            self.assertEqual(thread(i, letters), told((0, 3, 0), (1, 5, 1)))

    def test_two_threads_that_one_lacking_letter_joins(self):
        letters = listed((5, 2, [3]), (6, 1, [3]), (7, 9, [5]), (8, 4, [6]))
        for i in (3, 5, 6, 7, 8):
            self.assertEqual(
                thread(i, letters),
                told((0, 3, 0), (1, 6, 1), (2, 8, 1), (1, 5, 1), (2, 7, 1)),
            )

    def test_joined_by_what_one_letter_alone_tells(self):
        # 5 names 3 only; that 3 answers 2 is told by 6, which is later.
        letters = listed((5, 1, [3]), (6, 8, [2, 3, 4]), (2, 5, []))
        self.assertEqual(
            thread(5, letters),
            told((0, 2, 1), (1, 3, 0), (2, 5, 1), (2, 4, 0), (3, 6, 1)),
        )


class Rings(unittest.TestCase):
    def test_of_letters_here(self):
        letters = listed((1, 10, [2]), (2, 5, [3]), (3, 20, [1]))
        for i in (1, 2, 3):
            self.assertEqual(thread(i, letters), told((0, 2, 1), (1, 1, 1), (2, 3, 1)))

    def test_of_letters_here_with_like_times(self):
        letters = listed((3, 4, [1]), (2, 4, [3]), (1, 4, [2]))
        for i in (1, 2, 3):
            self.assertEqual(thread(i, letters), told((0, 1, 1), (1, 3, 1), (2, 2, 1)))

    def test_of_two(self):
        letters = listed((1, 9, [2]), (2, 8, [1]))
        self.assertEqual(thread(1, letters), told((0, 2, 1), (1, 1, 1)))

    def test_an_earlier_letter_off_the_ring_is_not_its_first(self):
        letters = listed((4, 1, [5]), (5, 9, [6]), (6, 8, [5]), (7, 2, [6]))
        for i in (4, 5, 6, 7):
            self.assertEqual(thread(i, letters), told((0, 6, 1), (1, 7, 1), (1, 5, 1), (2, 4, 1)))

    def test_some_of_which_are_not_here(self):
        # 9 -> 2 -> 9, for 7 tells that 2 answers 9: 9 is here, though 2 is the lesser.
        letters = listed((9, 50, [2]), (7, 10, [9, 2, 8]))
        for i in (2, 7, 8, 9):
            self.assertEqual(thread(i, letters), told((0, 9, 1), (1, 2, 0), (2, 8, 0), (3, 7, 1)))

    def test_some_of_which_are_not_here_the_earliest_letter_first(self):
        # 4 -> 2 -> 6 -> 3 -> 4: 6 answers nothing, so no chain comes to 3.
        letters = listed((4, 30, [6, 2]), (6, 20, [4, 3]))
        for i in (2, 4, 6):
            self.assertEqual(thread(i, letters), told((0, 6, 1), (1, 2, 0), (2, 4, 1)))
        self.assertEqual(thread(3, letters), [-2])
        # A letter that answers 3 makes it shown.
        letters += listed((5, 1, [3]))
        for i in (2, 3, 4, 5, 6):
            self.assertEqual(thread(i, letters), told((0, 6, 1), (1, 2, 0), (2, 4, 1), (3, 3, 0), (4, 5, 1)))

    def test_none_of_which_is_here(self):
        # 30 -> 20 by 5, 20 -> 30 by 6.
        letters = listed((5, 1, [20, 30]), (6, 2, [30, 20]))
        for i in (5, 6, 20, 30):
            self.assertEqual(thread(i, letters), told((0, 20, 0), (1, 30, 0), (2, 5, 1), (1, 6, 1)))

    def test_none_of_which_is_here_and_one_is_not_shown(self):
        # 20 -> 30 -> 20, and the chain of 5 ends at 20.
        letters = listed((5, 1, [20, 30, 20]))
        self.assertEqual(thread(5, letters), told((0, 20, 0), (1, 5, 1)))
        self.assertEqual(thread(30, letters), [-2])

    def test_of_sixteen(self):
        letters = listed(*[(number, 100 - number, [number % 16 + 1]) for number in range(1, 17)])
        rows = [(0, 16, 1)] + [(16 - number, number, 1) for number in range(15, 0, -1)]
        self.assertEqual(thread(8, letters), told(*rows))

    def test_two_rings_are_two_threads(self):
        letters = listed((1, 1, [2]), (2, 2, [1]), (3, 4, [4]), (4, 3, [3]))
        self.assertEqual(thread(2, letters), told((0, 1, 1), (1, 2, 1)))
        self.assertEqual(thread(3, letters), told((0, 4, 1), (1, 3, 1)))


class Others(unittest.TestCase):
    def test_no_letters(self):
        for i in (0, 1, 65535, 4294967295):
            self.assertEqual(thread(i, []), [-2])

    def test_a_deep_one(self):
        # Each letter names its forerunner and three that lack; the first one four that lack.
        letters = [(1, 1, [201, 202, 203, 204])]
        line = [(201, 0), (202, 0), (203, 0), (204, 0), (1, 1)]
        for number in range(2, 17):
            lacking = [1000 + number, 2000 + number, 3000 + number]
            letters.append((number, number, [number - 1] + lacking))
            line += [(other, 0) for other in lacking] + [(number, 1)]
        rows = [(deep, number, here) for deep, (number, here) in enumerate(line)]
        self.assertEqual(len(rows), 65)
        for i in (201, 1, 3008, 16):
            self.assertEqual(thread(i, listed(*letters)), told(*rows))

    def test_answers_written_before_what_they_answer(self):
        letters = listed((1, 100, []), (2, 50, [1]), (3, 10, [2]), (4, 60, [1]))
        for i in (1, 2, 3, 4):
            self.assertEqual(thread(i, letters), told((0, 1, 1), (1, 2, 1), (2, 3, 1), (1, 4, 1)))


if __name__ == "__main__":
    unittest.main()
