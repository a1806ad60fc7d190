"""What several tests need: lists of letters as the program takes them, letters made by a fixed seed,
and what those answer by the words of the document, worked out apart from the program."""

import random


def listed(*letters):
    """One list of whole numbers from letters that are each written (number, time, [named ..])."""
    numbers = []
    for number, time, named in letters:
        numbers += [number, time, len(named)] + list(named)
    return numbers


def told(*rows):
    """What thread gives back for the rows (how deep, number, 1 or 0)."""
    numbers = [len(rows)]
    for row in rows:
        numbers += row
    return numbers


def rows_of(answer):
    """The rows of what thread gave back, as tuples."""
    rows = [tuple(answer[place:place + 3]) for place in range(1, len(answer), 3)]
    assert len(answer) == 1 + 3 * answer[0] and len(rows) == answer[0], answer
    return rows


def made_letters(seed):
    """Letters with few numbers and few times, so that rings, like times and lacking ones are frequent."""
    chance = random.Random(seed)
    pool = list(range(1, chance.choice([4, 8, 14, 30]) + 1))
    count = chance.randint(0, min(16, len(pool)))
    times = chance.choice([1, 3, 100])
    letters = []
    for number in chance.sample(pool, count):
        named = [chance.choice(pool) for _ in range(chance.choice([0, 1, 1, 2, 3, 4]))]
        letters.append((number, chance.randrange(times), named))
    return letters


def said_by_document(letters):
    """{number: what it's said to answer}, worked out by the words of the document."""
    age = {number: (time, number) for number, time, _ in letters}
    tellers = {}
    said = {}
    for number, _, named in letters:
        named = [other for other in named if other != number]
        for other in named:
            said.setdefault(other, None)
            behind = [before for before, after in zip(named, named[1:]) if after == other]
            if behind and behind[0] != other:
                tellers.setdefault(other, []).append((age[number], behind[0]))
    for number, told_by in tellers.items():
        said[number] = min(told_by)[1]
    for number, _, named in letters:
        named = [other for other in named if other != number]
        said[number] = named[-1] if named else None
    return said


def answered_by_document(letters):
    """The same with the first of each ring answering nothing."""
    age = {number: (0, time, number) for number, time, _ in letters}
    said = said_by_document(letters)
    answered = dict(said)
    for number in said:
        ring, following = [], number
        for _ in said:
            following = said.get(following)
            ring.append(following)
            if following == number:
                first = min(ring, key=lambda one: age.get(one, (1, 0, one)))
                answered[first] = None
                break
    return answered


def shown_by_document(letters):
    """The letters that are here, and whatever their chains come to."""
    document = answered_by_document(letters)
    shown = set()
    for number, _, _ in letters:
        while number is not None:
            shown.add(number)
            number = document[number]
    return shown


class Unchanging(list):
    """A list that can't be changed, not for a while either."""

    def refuse(self, *args, **kwargs):
        raise AssertionError("what is handed in was changed")

    append = clear = extend = insert = pop = remove = reverse = sort = refuse
    __setitem__ = __delitem__ = __iadd__ = __imul__ = refuse
