"""What holds (a to d) over both calls, and the interface of threads, over letters that are made by fixed seeds."""

import random
import unittest

from letterlists import Unchanging, answered_by_document, listed, made_letters, rows_of, shown_by_document
from letterthreadsdesk.threads import thread, threads

SEEDS = range(1500)


def all_told(letters):
    """[(first, rows) ..]: each first that threads gives, with what thread tells when it is handed in."""
    handed = listed(*letters)
    answer = threads(handed)
    assert answer[0] == len(answer) - 1, answer
    return [(first, rows_of(thread(first, handed))) for first in answer[1:]]


def firsts_by_document(letters):
    """The firsts as they're told, worked out by the words of the document."""
    document = answered_by_document(letters)
    written = {}
    for number, time, _ in letters:
        while document[number] is not None:
            number = document[number]
        written.setdefault(number, []).append(time)
    firsts = sorted(written)
    return sorted(firsts, key=lambda first: max(written[first]), reverse=True)


class Holds(unittest.TestCase):
    def test_each_shown_is_told_once_in_just_one_thread(self):
        for seed in SEEDS:
            letters = made_letters(seed)
            numbers = []
            for first, rows in all_told(letters):
                self.assertEqual(rows[0][:2], (0, first), letters)
                numbers += [number for _, number, _ in rows]
            self.assertEqual(sorted(numbers), sorted(shown_by_document(letters)), letters)

    def test_told_alike_in_whichever_order_letters_come(self):
        for seed in SEEDS:
            letters = made_letters(seed)
            expected = all_told(letters)
            for order in (letters[::-1], sorted(letters), random.Random(seed).sample(letters, len(letters))):
                self.assertEqual(all_told(order), expected, letters)

    def test_an_answer_stands_behind_what_it_answers_one_deeper(self):
        for seed in SEEDS:
            letters = made_letters(seed)
            document = answered_by_document(letters)
            for first, rows in all_told(letters):
                self.assertIsNone(document[first], letters)
                deep = {}
                for depth, number, _ in rows:
                    answered = document[number]
                    self.assertEqual(depth, 0 if answered is None else deep[answered] + 1, letters)
                    deep[number] = depth

    def test_one_that_is_not_here_has_an_answer(self):
        for seed in SEEDS:
            letters = made_letters(seed)
            document = answered_by_document(letters)
            for _, rows in all_told(letters):
                answered = [document[number] for _, number, _ in rows]
                for _, number, here in rows:
                    self.assertTrue(here or number in answered, letters)

    def test_firsts_are_told_as_the_document_says(self):
        for seed in SEEDS:
            letters = made_letters(seed)
            firsts = firsts_by_document(letters)
            self.assertEqual(threads(listed(*letters)), [len(firsts)] + firsts, letters)

    def test_both_refuse_the_same_letters(self):
        for seed in SEEDS:
            letters = made_letters(seed)
            if letters:
                number, time, named = letters[seed % len(letters)]
                wrong = [(number, time + 1, []), (0, time, []), (65536, time, []), (600, time, [0]),
                         (600, time, [65536]), (600, time, [1, 2, 3, 4, 5])][seed % 6]
                place = seed % (len(letters) + 1)
                handed = listed(*letters[:place], wrong, *letters[place:])
                self.assertEqual(threads(handed), [-22], handed)
                self.assertEqual(thread(number, handed), [-22], handed)


class Interface(unittest.TestCase):
    def test_what_is_handed_in_is_not_changed(self):
        for seed in SEEDS:
            numbers = listed(*made_letters(seed))
            handed = Unchanging(numbers)
            threads(handed)
            self.assertEqual(list(handed), numbers)
        refused = Unchanging([1, 1, 0, 1, 1, 0])
        self.assertEqual(threads(refused), [-22])
        self.assertEqual(list(refused), [1, 1, 0, 1, 1, 0])

    def test_nothing_is_kept_from_one_call_to_the_next(self):
        letters = listed((1, 1, []), (2, 2, [1, 3]), (7, 5, []))
        answer = threads(letters)
        self.assertEqual(answer, [2, 7, 1])
        answer.append(7)
        for other in ([], listed((3, 1, [])), listed((1, 1, []), (1, 2, [])), listed((3, 5, [2]), (1, 9, [3]))):
            threads(other)
            thread(2, other)
            self.assertEqual(threads(letters), [2, 7, 1])

    def test_whole_numbers_in_a_list_are_given_back(self):
        for letters in ([], [1, 1, 0], [0, 0, 0], listed((1, 1, []), (2, 2, [3]))):
            answer = threads(letters)
            self.assertIs(type(answer), list)
            self.assertEqual({type(number) for number in answer}, {int})

    def test_the_argument_by_its_name(self):
        self.assertEqual(threads(letters=[1, 1, 0]), [1, 1])


if __name__ == "__main__":
    unittest.main()
