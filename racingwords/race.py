"""A race of words: how long it takes, and which word ends it, on average or within some letters.

While the race goes on, all that matters of the letters drawn is their longest end
that is a beginning of a word. These beginnings are the states of the race. Each letter
leads from a state to a place: the places are the states, and behind them the words,
each for the end of the race with this word.
"""

from racingwords.exact import first_unknown, lowest_terms
from racingwords.letters import word_at_end


def states_of(words):
    """Return the states: each beginning of a word but the word itself, the empty one first."""
    states = [[]]
    for word in words:
        for length in range(1, len(word)):
            if word[:length] not in states:
                states.append(word[:length])
    return states


def state_after(states, sequence):
    """Return the longest state that the sequence ends with."""
    start = 0
    while sequence[start:] not in states:
        start = start + 1
    return sequence[start:]


def states_from(words, drawn):
    """Return the states, first of them the one that the letters drawn lead to."""
    states = states_of(words)
    start = state_after(states, drawn)
    return [start] + [state for state in states if state != start]


def place_after(states, words, sequence):
    """Return the place that a state and one more letter lead to."""
    winner = word_at_end(words, sequence)
    if winner is None:
        return states.index(state_after(states, sequence))
    return len(states) + winner


def moves_of(states, words, letter_count):
    """Return for each state the places that the letters lead to."""
    moves = []
    for state in states:
        moves.append([place_after(states, words, state + [letter]) for letter in range(letter_count)])
    return moves


def equation(number, moves, word_count, weights):
    """Return the equation of a state: a number for each state, then the right sides.

    The right sides are those for the probability of each word and for the time. All is
    multiplied by the sum of the weights, so that the numbers are whole.
    """
    row = [0] * (len(moves) + word_count)
    row[number] = sum(weights)
    for place, weight in zip(moves[number], weights):
        if place < len(moves):
            row[place] = row[place] - weight
        else:
            row[place] = row[place] + weight
    return row + [sum(weights)]


def outcome(words, weights, drawn):
    """Return the time from the letters drawn on, then the probability of each word.

    They are returned as fractions in a row. No word may occur in the letters drawn.
    """
    states = states_from(words, drawn)
    moves = moves_of(states, words, len(weights))
    # From each state the race can end, so each pivot on the way is positive.
    left = first_unknown([equation(number, moves, len(words), weights) for number in range(len(states))])
    fractions = lowest_terms(left[-1], left[0])
    for value in left[len(states):-1]:
        fractions.extend(lowest_terms(value, left[0]))
    return fractions


def one_letter_later(chances, moves, weights):
    """Return the chance of each place when one more letter is drawn, times the sum of the weights."""
    later = [0] * len(moves)
    later.extend([chance * sum(weights) for chance in chances[len(moves):]])
    # There are moves for the states alone: a race that has ended stays as it is.
    for chance, places in zip(chances, moves):
        for place, weight in zip(places, weights):
            later[place] = later[place] + chance * weight
    return later


def standing(words, weights, count):
    """Return how the race stands after so many letters, as fractions in a row.

    The first one is the probability that no word has occurred; behind it stand those of
    each word, that the race has ended with it.
    """
    states = states_of(words)
    moves = moves_of(states, words, len(weights))
    chances = [1] + [0] * (len(states) - 1 + len(words))
    for drawn in range(count):
        chances = one_letter_later(chances, moves, weights)
    whole = sum(chances)
    fractions = lowest_terms(sum(chances[:len(states)]), whole)
    for chance in chances[len(states):]:
        fractions.extend(lowest_terms(chance, whole))
    return fractions
