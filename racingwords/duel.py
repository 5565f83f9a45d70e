"""Words of the same length against one another: the best reply to a word, and rings of words."""

from racingwords.letters import words_of_length
from racingwords.race import outcome

SHORTEST_RING = 3
LONGEST_RING = 4


def chance_against(word, other, weights):
    """Return the probability of the word against the other one, as a fraction."""
    return outcome([word, other], weights, [])[2:4]


def is_greater(one, other):
    """Tell whether the one fraction is greater than the other."""
    return one[0] * other[1] > other[0] * one[1]


def best_reply(letters, weights):
    """Return the first of the best replies to the word, behind its probability."""
    best = [0, 1]
    reply = []
    for word in words_of_length(len(letters), len(weights)):
        if word != letters:
            chance = chance_against(word, letters, weights)
            if is_greater(chance, best):
                best = chance
                reply = word
    return best + reply


def beaten_words(words, weights):
    """Return for each word the numbers of the words that it beats, in their order."""
    beaten = [[] for word in words]
    for later in range(len(words)):
        for earlier in range(later):
            chance = chance_against(words[earlier], words[later], weights)
            if is_greater(chance, [1, 2]):
                beaten[earlier].append(later)
            elif is_greater([1, 2], chance):
                beaten[later].append(earlier)
    return beaten


def first_ring(path, length, beaten):
    """Return the first ring of the length that goes on from the path, as numbers, or None."""
    if len(path) == length:
        return path if path[0] in beaten[path[-1]] else None
    for number in beaten[path[-1]]:
        # A ring is written from its first word, so each further one comes behind that.
        if number > path[0] and number not in path:
            ring = first_ring(path + [number], length, beaten)
            if ring is not None:
                return ring
    return None


def shortest_ring(length, weights):
    """Return the first of the shortest rings of words of the length, or None."""
    words = words_of_length(length, len(weights))
    beaten = beaten_words(words, weights)
    for size in range(SHORTEST_RING, LONGEST_RING + 1):
        for number in range(len(words)):
            ring = first_ring([number], size, beaten)
            if ring is not None:
                return [words[member] for member in ring]
    return None
