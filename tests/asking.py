"""What the tests share: handing calls in, and reckoning races another way than the program."""

from fractions import Fraction
from itertools import product

from racingwords.drawing import answers


def begin(*weights):
    return [0, len(weights), *weights]


def word(*letters):
    return [1, len(letters), *letters]


def wait(*letters):
    return [2, len(letters), *letters]


def first():
    return [3]


def ask(*calls):
    """Hand the calls in as one list and return the answer to each."""
    given = answers([number for call in calls for number in call])
    apart = []
    place = 0
    while place < len(given):
        end = place + 1 + given[place]
        apart.append(given[place + 1:end])
        place = end
    assert place == len(given) and len(apart) == len(calls), given
    return apart


def ask_last(*calls):
    return ask(*calls)[-1]


def race(weights, *words):
    """Return the answer of first for these words."""
    return ask_last(begin(*weights), *[word(*letters) for letters in words], first())


def fractions(numbers):
    """Return the fractions that stand in the numbers, two numbers each."""
    return [Fraction(*numbers[at:at + 2]) for at in range(0, len(numbers), 2)]


def time_and_chances(weights, *words):
    """Return the time of first, and the list of its probabilities."""
    found = fractions(race(weights, *words)[1:])
    return found[0], found[1:]


def chance_of(weights, letters):
    chance = Fraction(1)
    for letter in letters:
        chance *= Fraction(weights[letter], sum(weights))
    return chance


def all_words(count, length):
    return list(product(range(count), repeat=length))


def lies_in(part, sequence):
    ends = range(len(part), len(sequence) + 1)
    return any(tuple(sequence[end - len(part):end]) == tuple(part) for end in ends)


def fits(words, letters):
    """Tell whether no word contains the letters or lies in them."""
    return not any(lies_in(one, letters) or lies_in(letters, one) for one in words)


def overlaps(weights, ending, starting):
    """Sum 1 / P(start) over the starts of one word that are ends of the other."""
    total = Fraction(0)
    for length in range(1, min(len(ending), len(starting)) + 1):
        if tuple(ending[len(ending) - length:]) == tuple(starting[:length]):
            total += 1 / chance_of(weights, starting[:length])
    return total


def solved(rows):
    """Solve the equations, each its factors and then its right side."""
    rows = [list(row) for row in rows]
    for at in range(len(rows)):
        pivot = next(k for k in range(at, len(rows)) if rows[k][at] != 0)
        rows[at], rows[pivot] = rows[pivot], rows[at]
        rows[at] = [value / rows[at][at] for value in rows[at]]
        for k in range(len(rows)):
            if k != at:
                factor = rows[k][at]
                rows[k] = [value - factor * other for value, other in zip(rows[k], rows[at])]
    return [row[-1] for row in rows]


def expected(weights, *words):
    """Reckon [time, probabilities] from how the words overlap (Conway), without any states.

    For each word w: time = sum over the words v of P(v first) * overlaps(v, w).
    """
    rows = [[Fraction(-1)] + [overlaps(weights, v, w) for v in words] + [Fraction(0)] for w in words]
    rows.append([Fraction(0)] + [Fraction(1)] * len(words) + [Fraction(1)])
    return solved(rows)


def ended_within(weights, length, *words):
    """Draw all sequences of the length: return P(no word yet), and P(ended with it) word by word."""
    running = Fraction(0)
    ended = [Fraction(0)] * len(words)
    for sequence in all_words(len(weights), length):
        ends = [(end, number) for end in range(1, length + 1) for number, letters in enumerate(words)
                if end >= len(letters) and sequence[end - len(letters):end] == tuple(letters)]
        if ends:
            ended[min(ends)[1]] += chance_of(weights, sequence)
        else:
            running += chance_of(weights, sequence)
    return running, ended
