"""What the tests share: handing calls in, and reckoning races another way than the program."""

import random
from fractions import Fraction
from itertools import permutations, product

from racingwords.drawing import answers


def begin(*weights):
    return [0, len(weights), *weights]


def word(*letters):
    return [1, len(letters), *letters]


def wait(*letters):
    return [2, len(letters), *letters]


def first():
    return [3]


def by(count):
    return [4, count]


def after(*letters):
    return [5, len(letters), *letters]


def reply(*letters):
    return [6, len(letters), *letters]


def ring(length):
    return [7, length]


def ask(*calls):
    """Hand the calls in as one list and return the answer to each."""
    given = answers([number for call in calls for number in call])
    apart = []
    place = 0
    while place < len(given):
        end = place + 1 + given[place]
        apart.append(given[place + 1:end])
        place = end
    assert place == len(given) and len(apart) == len(calls), given
    return apart


def ask_last(*calls):
    return ask(*calls)[-1]


def ask_race(weights, words, *calls):
    """Return the answers to the calls when these words race."""
    given = ask(begin(*weights), *[word(*letters) for letters in words], *calls)
    assert given[:len(words) + 1] == [[sum(weights)]] + [[number] for number in range(len(words))]
    return given[len(words) + 1:]


def race(weights, *words):
    """Return the answer of first for these words."""
    return ask_race(weights, words, first())[0]


def fractions(numbers):
    """Return the fractions that stand in the numbers, two numbers each."""
    return [Fraction(*numbers[at:at + 2]) for at in range(0, len(numbers), 2)]


def time_and_chances(weights, *words):
    """Return the time of first, and the list of its probabilities."""
    found = fractions(race(weights, *words)[1:])
    return found[0], found[1:]


def chance_of(weights, letters):
    chance = Fraction(1)
    for letter in letters:
        chance *= Fraction(weights[letter], sum(weights))
    return chance


def all_words(count, length):
    return list(product(range(count), repeat=length))


def lies_in(part, sequence):
    ends = range(len(part), len(sequence) + 1)
    return any(tuple(sequence[end - len(part):end]) == tuple(part) for end in ends)


def fits(words, letters):
    """Tell whether no word contains the letters or lies in them."""
    return not any(lies_in(one, letters) or lies_in(letters, one) for one in words)


def some_races(seed, count):
    """Return races: weights and 1 to 4 words, the same ones each time."""
    choose = random.Random(seed)
    races = []
    while len(races) < count:
        weights = [choose.randint(1, 10) for letter in range(choose.choice((2, 3)))]
        words = []
        for attempt in range(choose.choice((1, 2, 4, 8))):
            length = choose.choice((1, 2, 3, 3, 4, 4, 5, 5))
            letters = tuple(choose.randrange(len(weights)) for place in range(length))
            if fits(words, letters) and len(words) < 4:
                words.append(letters)
        races.append((weights, words))
    return races


def exchanges(weights, *sequences):
    """Return all ways to exchange the letters, each as the weights and the sequences then."""
    ways = []
    for order in permutations(range(len(weights))):
        others = [[order.index(letter) for letter in letters] for letters in sequences]
        ways.append(([weights[letter] for letter in order], others))
    return ways


def occurrence(words, letters):
    """Return (number of letters, number of the word) for the word that occurs first, or None."""
    ends = [(end, number) for end in range(1, len(letters) + 1) for number, one in enumerate(words)
            if tuple(letters[:end][-len(one):]) == tuple(one)]
    return min(ends, default=None)


def some_letters(seed, words, count, length):
    """Return so many letters, the same ones each time, in which none of the words occurs."""
    choose = random.Random(seed)
    letters = []
    for attempt in range(20 * length):
        if len(letters) < length:
            longer = letters + [choose.randrange(count)]
            letters = letters if occurrence(words, longer) else longer
    return letters


def overlaps(weights, ending, starting):
    """Sum 1 / P(start) over the starts of one word that are ends of the other."""
    total = Fraction(0)
    for length in range(1, min(len(ending), len(starting)) + 1):
        if tuple(ending[len(ending) - length:]) == tuple(starting[:length]):
            total += 1 / chance_of(weights, starting[:length])
    return total


def solved(rows):
    """Solve the equations, each its factors and then its right side."""
    rows = [list(row) for row in rows]
    for at in range(len(rows)):
        pivot = next(k for k in range(at, len(rows)) if rows[k][at] != 0)
        rows[at], rows[pivot] = rows[pivot], rows[at]
        rows[at] = [value / rows[at][at] for value in rows[at]]
        for k in range(len(rows)):
            if k != at:
                factor = rows[k][at]
                rows[k] = [value - factor * other for value, other in zip(rows[k], rows[at])]
    return [row[-1] for row in rows]


def expected_after(weights, drawn, *words):
    """Reckon [time, probabilities] from how words and letters overlap (Conway), without any states.

    For each word w: time = sum over the words v of P(v first) * overlaps(v, w) - overlaps(drawn, w).
    """
    rows = []
    for w in words:
        row = [Fraction(-1)] + [overlaps(weights, v, w) for v in words]
        rows.append(row + [overlaps(weights, drawn, w)])
    rows.append([Fraction(0)] + [Fraction(1)] * len(words) + [Fraction(1)])
    return solved(rows)


def expected(weights, *words):
    return expected_after(weights, (), *words)


def expected_against(weights, v, w):
    """Reckon the probability of v against w from how they overlap."""
    wins = overlaps(weights, w, w) - overlaps(weights, w, v)
    losses = overlaps(weights, v, v) - overlaps(weights, v, w)
    return wins / (wins + losses)


def ended_within(weights, length, *words):
    """Draw all sequences of the length: return P(no word yet), and P(ended with it) word by word."""
    running = Fraction(0)
    ended = [Fraction(0)] * len(words)
    for sequence in all_words(len(weights), length):
        end = occurrence(words, sequence)
        if end is None:
            running += chance_of(weights, sequence)
        else:
            ended[end[1]] += chance_of(weights, sequence)
    return running, ended


def expected_by(weights, length, *words):
    """Reckon [P(no word yet), P(ended with it) word by word] for 0 to length letters, without any states.

    No word for n letters and then w: the race has ended on the way, with some word v whose end is
    the start of w that is drawn by then; the rest of w still has to follow.
    """
    running = [Fraction(1)]
    ends = [[Fraction(0)] * len(words)]
    for n in range(1, length + 1):
        now = [Fraction(0)] * len(words)
        for number, w in enumerate(words):
            if n >= len(w):
                now[number] = running[n - len(w)] * chance_of(weights, w)
                for size in range(1, len(w)):
                    for other, v in enumerate(words):
                        if len(v) >= size and tuple(v[len(v) - size:]) == tuple(w[:size]):
                            past = ends[n - len(w) + size][other]
                            now[number] -= past * chance_of(weights, w[size:])
        ends.append(now)
        running.append(running[-1] - sum(now))
    found = []
    for n in range(length + 1):
        found.append([running[n]] + [sum(row[number] for row in ends[:n + 1]) for number in range(len(words))])
    return found
