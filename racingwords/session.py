"""A session: the letters, the words in the race, and the operations on them."""

from racingwords.duel import best_reply, shortest_ring
from racingwords.letters import are_letters, are_weights, entangled_word, first_occurrence, is_word
from racingwords.race import outcome, standing

MOST_WORDS = 4
MOST_LETTERS_BY = 30
MOST_LETTERS_AFTER = 20
SHORTEST_IN_RING = 1
LONGEST_IN_RING = 3

OUTSIDE_LIMITS = -1
RACE_IS_FULL = -5
WORD_IN_WORD = -6
WORD_HAS_OCCURRED = -7
NOTHING_THERE = -11


class Session:
    """The letters and the words in the race; each operation returns its answer as a list."""

    def __init__(self):
        self.weights = [1, 1]
        self.words = []

    def begin(self, weights):
        """Set the letters and remove all words."""
        if not are_weights(weights):
            return [OUTSIDE_LIMITS]
        self.weights = list(weights)
        self.words = []
        return [sum(weights)]

    def word(self, letters):
        """Add a word to the race."""
        if not is_word(letters, self.weights):
            return [OUTSIDE_LIMITS]
        entangled = entangled_word(self.words, letters)
        if entangled is not None:
            return [WORD_IN_WORD, entangled]
        if len(self.words) == MOST_WORDS:
            return [RACE_IS_FULL]
        self.words.append(list(letters))
        return [len(self.words) - 1]

    def wait(self, letters):
        """Answer the time of the race of this word alone."""
        if not is_word(letters, self.weights):
            return [OUTSIDE_LIMITS]
        return [0] + outcome([letters], self.weights, [])[:2]

    def first(self):
        """Answer the time of the race and the probability of each word."""
        if len(self.words) == 0:
            return [NOTHING_THERE]
        return [len(self.words)] + outcome(self.words, self.weights, [])

    def by(self, count):
        """Answer how likely no word, and how likely each word, has ended the race by so many letters."""
        if count > MOST_LETTERS_BY:
            return [OUTSIDE_LIMITS]
        if len(self.words) == 0:
            return [NOTHING_THERE]
        return [len(self.words)] + standing(self.words, self.weights, count)

    def after(self, letters):
        """Answer the time and the probability of each word when the letters have been drawn."""
        if len(letters) > MOST_LETTERS_AFTER or not are_letters(letters, self.weights):
            return [OUTSIDE_LIMITS]
        if len(self.words) == 0:
            return [NOTHING_THERE]
        occurrence = first_occurrence(self.words, letters)
        if occurrence is not None:
            return [WORD_HAS_OCCURRED] + list(occurrence)
        return [len(self.words)] + outcome(self.words, self.weights, letters)

    def reply(self, letters):
        """Answer the best reply to this word, behind its probability against it."""
        if not is_word(letters, self.weights):
            return [OUTSIDE_LIMITS]
        return [0] + best_reply(letters, self.weights)

    def ring(self, length):
        """Answer the shortest ring of words of this length, letter by letter."""
        if length < SHORTEST_IN_RING or length > LONGEST_IN_RING:
            return [OUTSIDE_LIMITS]
        words = shortest_ring(length, self.weights)
        if words is None:
            return [NOTHING_THERE]
        answer = [len(words)]
        for word in words:
            answer.extend(word)
        return answer
