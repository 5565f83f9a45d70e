"""A race of words: how long it takes on average and which word ends it.

While the race goes on, all that matters of the letters drawn is their longest end
that is a beginning of a word. These beginnings are the states of the race.
"""

from racingwords.exact import first_unknown, lowest_terms
from racingwords.letters import ends_with, word_at_end


def states_of(words):
    """Return the states: each beginning of a word but the word itself, the empty one first."""
    states = [[]]
    for word in words:
        for length in range(1, len(word)):
            if word[:length] not in states:
                states.append(word[:length])
    return states


def state_at_end(states, sequence):
    """Return the number of the longest state that the sequence ends with."""
    longest = 0
    for number, state in enumerate(states):
        if ends_with(sequence, state) and len(state) > len(states[longest]):
            longest = number
    return longest


def row_of(number, states, words, weights):
    """Return the equation of a state: a number for each state, then the right sides.

    The right sides are those for the time and for the probability of each word. All is
    multiplied by the sum of the weights, so that the numbers are whole.
    """
    row = [0] * (len(states) + 1 + len(words))
    row[number] = sum(weights)
    row[len(states)] = sum(weights)
    for letter, weight in enumerate(weights):
        sequence = states[number] + [letter]
        winner = word_at_end(words, sequence)
        if winner is None:
            reached = state_at_end(states, sequence)
            row[reached] = row[reached] - weight
        else:
            place = len(states) + 1 + winner
            row[place] = row[place] + weight
    return row


def outcome(words, weights):
    """Return the time of the race and then the probability of each word, as fractions in a row."""
    states = states_of(words)
    # From each state the race can end, so each pivot on the way is positive.
    left = first_unknown([row_of(number, states, words, weights) for number in range(len(states))])
    fractions = []
    for value in left[len(states):]:
        fractions.extend(lowest_terms(value, left[0]))
    return fractions
