"""What several tests need: lists of letters as the program takes them, and letters made by a fixed seed."""

import random


def listed(*letters):
    """One list of whole numbers from letters that are each written (number, time, [named ..])."""
    numbers = []
    for number, time, named in letters:
        numbers += [number, time, len(named)] + list(named)
    return numbers


def told(*rows):
    """What thread gives back for the rows (how deep, number, 1 or 0)."""
    numbers = [len(rows)]
    for row in rows:
        numbers += row
    return numbers


def rows_of(answer):
    """The rows of what thread gave back, as tuples."""
    rows = [tuple(answer[place:place + 3]) for place in range(1, len(answer), 3)]
    assert len(answer) == 1 + 3 * answer[0] and len(rows) == answer[0], answer
    return rows


def made_letters(seed):
    """Letters with few numbers and few times, so that rings, like times and lacking ones are frequent."""
    chance = random.Random(seed)
    pool = list(range(1, chance.choice([4, 8, 14, 30]) + 1))
    count = chance.randint(0, min(16, len(pool)))
    times = chance.choice([1, 3, 100])
    letters = []
    for number in chance.sample(pool, count):
        named = [chance.choice(pool) for _ in range(chance.choice([0, 1, 1, 2, 3, 4]))]
        letters.append((number, chance.randrange(times), named))
    return letters
