"""What the document says of the numbers that a letter names."""

import unittest

from letterlists import listed, told
from letterthreadsdesk.threads import thread


class OwnNumber(unittest.TestCase):
    def test_alone(self):
        self.assertEqual(thread(5, listed((5, 1, [5]))), told((0, 5, 1)))

    def test_four_times(self):
        self.assertEqual(thread(5, listed((5, 1, [5, 5, 5, 5]))), told((0, 5, 1)))

    def test_last(self):
        self.assertEqual(thread(5, listed((5, 1, [3, 5]))), told((0, 3, 0), (1, 5, 1)))

    def test_first(self):
        self.assertEqual(thread(5, listed((5, 1, [5, 3]))), told((0, 3, 0), (1, 5, 1)))

    def test_between_two(self):
        self.assertEqual(thread(5, listed((5, 1, [3, 5, 7]))), told((0, 3, 0), (1, 7, 0), (2, 5, 1)))

    def test_between_one_and_the_same(self):
        self.assertEqual(thread(5, listed((5, 1, [3, 5, 3]))), told((0, 3, 0), (1, 5, 1)))


class ToldBySeveral(unittest.TestCase):
    def test_the_earliest_holds(self):
        letters = listed((1, 10, [20, 9]), (2, 5, [30, 9]))
        self.assertEqual(thread(1, letters), told((0, 30, 0), (1, 9, 0), (2, 2, 1), (2, 1, 1)))
        self.assertEqual(thread(20, letters), [-2])

    def test_of_like_times_the_lesser_number_holds(self):
        expected = told((0, 20, 0), (1, 9, 0), (2, 1, 1), (2, 2, 1))
        self.assertEqual(thread(2, listed((1, 5, [20, 9]), (2, 5, [30, 9]))), expected)
        self.assertEqual(thread(2, listed((2, 5, [30, 9]), (1, 5, [20, 9]))), expected)

    def test_the_earliest_that_tells_of_it_though_others_are_earlier(self):
        letters = listed((1, 1, [9]), (2, 2, [9, 8]), (3, 7, [30, 9]), (4, 6, [40, 9]))
        self.assertEqual(
            thread(9, letters),
            told((0, 40, 0), (1, 9, 0), (2, 1, 1), (2, 8, 0), (3, 2, 1), (2, 4, 1), (2, 3, 1)),
        )

    def test_one_that_is_here_is_not_told_of(self):
        letters = listed((9, 4, []), (5, 1, [20, 9]))
        self.assertEqual(thread(5, letters), told((0, 9, 1), (1, 5, 1)))
        letters = listed((9, 4, [30]), (5, 1, [20, 9]))
        self.assertEqual(thread(5, letters), told((0, 30, 0), (1, 9, 1), (2, 5, 1)))


class Twice(unittest.TestCase):
    def test_the_first_place_behind_any_speaks(self):
        letters = listed((5, 1, [20, 9, 30, 9]))
        self.assertEqual(thread(5, letters), told((0, 20, 0), (1, 9, 0), (2, 5, 1)))
        self.assertEqual(thread(30, letters), [-2])

    def test_first_among_the_named_and_then_behind_another(self):
        # The first place is behind none, so 9 answers 20; 20 answers 9 in turn, and 9 is the lesser.
        letters = listed((5, 1, [9, 20, 9]), (6, 2, [20]))
        self.assertEqual(thread(5, letters), told((0, 9, 0), (1, 5, 1), (1, 20, 0), (2, 6, 1)))
        # With 20 here and answering nothing, it is 9 that answers.
        letters = listed((5, 1, [9, 20, 9]), (20, 2, []))
        self.assertEqual(thread(5, letters), told((0, 20, 1), (1, 9, 0), (2, 5, 1)))

    def test_right_behind_itself(self):
        self.assertEqual(thread(5, listed((5, 1, [9, 9]))), told((0, 9, 0), (1, 5, 1)))

    def test_right_behind_itself_and_later_behind_another(self):
        letters = listed((5, 1, [9, 9, 20, 9]), (20, 3, []))
        self.assertEqual(thread(5, letters), told((0, 9, 0), (1, 5, 1)))
        self.assertEqual(thread(20, letters), told((0, 20, 1)))

    def test_behind_another_and_then_behind_itself(self):
        self.assertEqual(thread(5, listed((5, 1, [20, 9, 9]))), told((0, 20, 0), (1, 9, 0), (2, 5, 1)))

    def test_right_behind_itself_in_one_letter_and_told_of_by_a_later_one(self):
        letters = listed((5, 1, [9, 9]), (6, 2, [20, 9]))
        self.assertEqual(thread(5, letters), told((0, 20, 0), (1, 9, 0), (2, 5, 1), (2, 6, 1)))


class First(unittest.TestCase):
    def test_alone(self):
        self.assertEqual(thread(9, listed((5, 1, [9]))), told((0, 9, 0), (1, 5, 1)))

    def test_ahead_of_another(self):
        self.assertEqual(thread(9, listed((5, 1, [9, 8]))), told((0, 9, 0), (1, 8, 0), (2, 5, 1)))


if __name__ == "__main__":
    unittest.main()
