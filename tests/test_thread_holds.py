"""What holds (a to d) and the interface, over many letters that are made by fixed seeds."""

import ast
import pathlib
import random
import unittest

import letterthreadsdesk.threads
from letterlists import Unchanging, answered_by_document, listed, made_letters, rows_of, shown_by_document
from letterthreadsdesk.threads import thread

SEEDS = range(1500)


def told_threads(letters):
    """What is told from each number that might be shown: {number: rows}."""
    asked = {number for number, _, _ in letters}
    for _, _, named in letters:
        asked.update(named)
    found = {}
    for i in sorted(asked):
        answer = thread(i, listed(*letters))
        if answer != [-2]:
            found[i] = rows_of(answer)
    return found


def answered_by_rows(rows):
    """{number: the one it answers} as the depths of the rows tell it, None for the first."""
    path = []
    answered = {}
    for deep, number, _ in rows:
        path = path[:deep]
        answered[number] = path[-1] if path else None
        path.append(number)
    return answered


class Holds(unittest.TestCase):
    def test_each_shown_is_told_once_in_just_one_thread(self):
        for seed in SEEDS:
            letters = made_letters(seed)
            found = told_threads(letters)
            for i, rows in found.items():
                numbers = [number for _, number, _ in rows]
                self.assertEqual(len(set(numbers)), len(numbers), letters)
                self.assertIn(i, numbers, letters)
                for number in numbers:
                    self.assertEqual(found.get(number), rows, letters)
            for number, _, _ in letters:
                self.assertIn(number, found, letters)

    def test_told_alike_in_whichever_order_letters_come(self):
        for seed in SEEDS:
            letters = made_letters(seed)
            found = told_threads(letters)
            for order in (letters[::-1], sorted(letters), random.Random(seed).sample(letters, len(letters))):
                self.assertEqual(told_threads(order), found, letters)

    def test_an_answer_stands_behind_what_it_answers_one_deeper(self):
        for seed in SEEDS:
            letters = made_letters(seed)
            document = answered_by_document(letters)
            for rows in told_threads(letters).values():
                self.assertEqual(rows[0][0], 0, letters)
                for before, after in zip(rows, rows[1:]):
                    self.assertTrue(1 <= after[0] <= before[0] + 1, letters)
                for number, answered in answered_by_rows(rows).items():
                    self.assertEqual(document[number], answered, letters)

    def test_one_that_is_not_here_has_an_answer(self):
        for seed in SEEDS:
            letters = made_letters(seed)
            numbers = [number for number, _, _ in letters]
            for rows in told_threads(letters).values():
                answered = answered_by_rows(rows)
                for _, number, here in rows:
                    self.assertEqual(here, 1 if number in numbers else 0, letters)
                    self.assertTrue(here or number in answered.values(), letters)

    def test_shown_are_letters_here_and_whatever_their_chains_come_to(self):
        for seed in SEEDS:
            letters = made_letters(seed)
            self.assertEqual(set(told_threads(letters)), shown_by_document(letters), letters)

    def test_what_answers_one_is_told_by_time_then_number(self):
        for seed in SEEDS:
            letters = made_letters(seed)
            document = answered_by_document(letters)
            own = {number: time for number, time, _ in letters}
            times = {}
            for number, time in own.items():
                while number is not None:
                    times[number] = own.get(number, min(time, times.get(number, time)))
                    number = document[number]
            for rows in told_threads(letters).values():
                answers = {}
                for number, answered in answered_by_rows(rows).items():
                    answers.setdefault(answered, []).append((times[number], number))
                for together in answers.values():
                    self.assertEqual(together, sorted(together), letters)


class Interface(unittest.TestCase):
    def test_what_is_handed_in_is_not_changed(self):
        for seed in SEEDS:
            numbers = listed(*made_letters(seed))
            handed = Unchanging(numbers)
            for i in (0, 1, 2, 3, 9):
                thread(i, handed)
                self.assertEqual(list(handed), numbers)
        refused = Unchanging([1, 1, 0, 1, 1, 0])
        self.assertEqual(thread(1, refused), [-22])
        self.assertEqual(list(refused), [1, 1, 0, 1, 1, 0])

    def test_nothing_is_kept_from_one_call_to_the_next(self):
        letters = listed((1, 1, []), (2, 2, [1, 3]))
        expected = [3, 0, 1, 1, 1, 3, 0, 2, 2, 1]
        answer = thread(2, letters)
        self.assertEqual(answer, expected)
        answer.append(7)
        for other in ([], listed((3, 1, [])), listed((1, 1, []), (1, 2, [])), listed((3, 5, [2]), (1, 9, [3]))):
            thread(2, other)
            self.assertEqual(thread(2, letters), expected)

    def test_whole_numbers_in_a_list_are_given_back(self):
        for i, letters in ((2, listed((1, 1, []), (2, 2, [1, 3]))), (7, [1, 1, 0]), (1, [0, 0, 0])):
            answer = thread(i, letters)
            self.assertIs(type(answer), list)
            self.assertEqual({type(number) for number in answer}, {int})

    def test_arguments_by_their_names(self):
        self.assertEqual(thread(i=1, letters=[1, 1, 0]), [1, 0, 1, 1])

    def test_it_prints_reads_and_imports_nothing(self):
        package = pathlib.Path(letterthreadsdesk.threads.__file__).parent
        for path in sorted(package.glob("*.py")):
            for node in ast.walk(ast.parse(path.read_text(encoding="utf-8"))):
                self.assertNotIsInstance(node, (ast.Import, ast.ImportFrom), path.name)
                if isinstance(node, ast.Name):
                    self.assertNotIn(node.id, ("print", "open", "input", "__import__", "exec", "eval"), path.name)

    def test_functions_call_no_function_that_leads_back_to_them(self):
        path = pathlib.Path(letterthreadsdesk.threads.__file__)
        tree = ast.parse(path.read_text(encoding="utf-8"))
        defined = {node.name: node for node in tree.body if isinstance(node, ast.FunctionDef)}
        calls = {}
        for name, node in defined.items():
            named = {part.id for part in ast.walk(node) if isinstance(part, ast.Name)}
            calls[name] = named & set(defined)
        for name in defined:
            reached, waiting = set(), list(calls[name])
            while waiting:
                step = waiting.pop()
                if step not in reached:
                    reached.add(step)
                    waiting += calls[step]
            self.assertNotIn(name, reached)


if __name__ == "__main__":
    unittest.main()
