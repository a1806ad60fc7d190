"""Letters that answer one another, told as threads, each answer right behind what it answers."""

MOST_LETTERS = 16
MOST_NAMED = 4
LEAST_NUMBER = 1
GREATEST_NUMBER = 65535

NOT_SHOWN = -2
LETTERS_REFUSED = -22


class Letter:
    def __init__(self, number, written, named):
        self.number = number
        self.written = written
        self.named = named
        # A letter's own number doesn't count, so those on either side of it stand next to each other.
        self.others = [other for other in named if other != number]


def read_letters(letters):
    read = []
    place = 0
    while place < len(letters):
        start = place + 3
        end = start + letters[place + 2]
        read.append(Letter(letters[place], letters[place + 1], letters[start:end]))
        place = end
    return read


def is_number(value):
    return LEAST_NUMBER <= value <= GREATEST_NUMBER


def is_letter_allowed(letter):
    if len(letter.named) > MOST_NAMED:
        return False
    return is_number(letter.number) and all([is_number(other) for other in letter.named])


def are_letters_allowed(read):
    numbers = [letter.number for letter in read]
    if len(numbers) > MOST_LETTERS or len(set(numbers)) < len(numbers):
        return False
    return all([is_letter_allowed(letter) for letter in read])


# Wherever the document asks for the earliest letter, the first one met in this order is it;
# and the order in which letters were handed in is lost here, so nothing can hang on it.
def earliest_first(read):
    return sorted(read, key=lambda letter: (letter.written, letter.number))


def told_by_letter(number, letter):
    others = letter.others
    for place in range(1, len(others)):
        if others[place] == number:
            # Only the first such place speaks: behind itself there, it isn't told of by this letter at all.
            return None if others[place - 1] == number else others[place - 1]
    return None


def told_of_lacking(number, by_age):
    for letter in by_age:
        told = told_by_letter(number, letter)
        if told is not None:
            return told
    return None


def said_answers(by_age):
    said = {}
    for letter in by_age:
        said[letter.number] = letter.others[-1] if len(letter.others) > 0 else None
    # Letters that are here are all in by now: they speak for themselves, whatever others tell of them.
    for letter in by_age:
        for other in letter.others:
            if other not in said:
                said[other] = told_of_lacking(other, by_age)
    return said


def ring_through(number, said):
    walked = [number]
    following = said[number]
    # A walk may also run into a ring that number itself is not on, so any number met again ends it.
    while following is not None and following not in walked:
        walked.append(following)
        following = said[following]
    return walked if following == number else []


def first_on_ring(ring, by_age):
    for letter in by_age:
        if letter.number in ring:
            return letter.number
    return min(ring)


def cut_rings(said, by_age):
    answers = {}
    for number in said:
        ring = ring_through(number, said)
        is_first = len(ring) > 0 and first_on_ring(ring, by_age) == number
        answers[number] = None if is_first else said[number]
    return answers


def answers_among(by_age):
    return cut_rings(said_answers(by_age), by_age)


def chain_from(number, answers):
    chain = [number]
    following = answers[number]
    while following is not None:
        chain.append(following)
        following = answers[following]
    return chain


def first_of_thread(number, answers):
    return chain_from(number, answers)[-1]


# The keys are just those that are shown.
def times_of_shown(by_age, answers):
    times = {}
    for letter in by_age:
        times[letter.number] = letter.written
    for letter in by_age:
        for number in chain_from(letter.number, answers):
            if number not in times:
                times[number] = letter.written
    return times


def answers_to(number, answers, times):
    found = [other for other in times if answers[other] == number]
    return sorted(found, key=lambda other: (times[other], other))


def tell_thread(first, answers, times):
    told = []
    waiting = [(0, first)]
    while len(waiting) > 0:
        step = waiting.pop()
        told.append(step)
        # The last one laid down is taken up next, so the earliest answer is laid down last.
        for answer in reversed(answers_to(step[1], answers, times)):
            waiting.append((step[0] + 1, answer))
    return told


# Whatever is shown is so by the chain of a letter that's here, so the keys are the firsts of all threads.
def latest_times(by_age, answers):
    latest = {}
    for letter in by_age:
        # Letters come from the earliest on, so the last one to write its time here is its thread's latest.
        latest[first_of_thread(letter.number, answers)] = letter.written
    return latest


def thread(i, letters):
    read = read_letters(letters)
    if not are_letters_allowed(read):
        return [LETTERS_REFUSED]
    by_age = earliest_first(read)
    answers = answers_among(by_age)
    times = times_of_shown(by_age, answers)
    if i not in times:
        return [NOT_SHOWN]
    here = [letter.number for letter in by_age]
    told = tell_thread(first_of_thread(i, answers), answers, times)
    answer = [len(told)]
    for step in told:
        answer.extend([step[0], step[1], 1 if step[1] in here else 0])
    return answer


def threads(letters):
    read = read_letters(letters)
    if not are_letters_allowed(read):
        return [LETTERS_REFUSED]
    by_age = earliest_first(read)
    latest = latest_times(by_age, answers_among(by_age))
    firsts = sorted(latest, key=lambda first: (-latest[first], first))
    return [len(firsts)] + firsts
