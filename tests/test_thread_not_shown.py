"""-2 of promise 2, and that -22 goes ahead of it."""

import unittest

from letterlists import listed, told
from letterthreadsdesk.threads import thread


class NotShown(unittest.TestCase):
    def not_shown(self, i, *letters):
        self.assertEqual(thread(i, listed(*letters)), [-2], (i, letters))

    def test_one_that_no_letter_names(self):
        self.not_shown(7, (1, 1, []), (2, 2, [1]))

    def test_numbers_that_no_letter_can_have(self):
        for i in (0, 65536, 4294967295):
            self.not_shown(i, (1, 1, []), (2, 2, [1, 3]))

    def test_one_named_to_which_no_chain_comes(self):
        # 2 is here and answers nothing, whatever stands ahead of it where 3 names it.
        self.not_shown(8, (2, 1, []), (3, 2, [8, 2]))

    def test_one_named_of_which_an_earlier_letter_tells_otherwise(self):
        self.not_shown(20, (1, 10, [20, 9]), (2, 5, [30, 9]))

    def test_the_letters_refusal_goes_ahead(self):
        self.assertEqual(thread(7, listed((1, 1, []), (1, 2, []))), [-22])
        self.assertEqual(thread(7, listed((1, 1, []), (2, 2, []))), [-2])
        self.assertEqual(thread(2, listed((1, 1, []), (2, 2, []))), told((0, 2, 1)))


if __name__ == "__main__":
    unittest.main()
