"""A session: the letters, the words in the race, and the operations on them."""

from racingwords.letters import are_weights, entangled_word, is_word
from racingwords.race import outcome

MOST_WORDS = 4

OUTSIDE_LIMITS = -1
RACE_IS_FULL = -5
WORD_IN_WORD = -6
NOTHING_THERE = -11


class Session:
    """The letters and the words in the race; each operation returns its answer as a list."""

    def __init__(self):
        self.weights = [1, 1]
        self.words = []

    def begin(self, weights):
        """Set the letters and remove all words."""
        if not are_weights(weights):
            return [OUTSIDE_LIMITS]
        self.weights = list(weights)
        self.words = []
        return [sum(weights)]

    def word(self, letters):
        """Add a word to the race."""
        if not is_word(letters, self.weights):
            return [OUTSIDE_LIMITS]
        entangled = entangled_word(self.words, letters)
        if entangled is not None:
            return [WORD_IN_WORD, entangled]
        if len(self.words) == MOST_WORDS:
            return [RACE_IS_FULL]
        self.words.append(list(letters))
        return [len(self.words) - 1]

    def wait(self, letters):
        """Answer the time of the race of this word alone."""
        if not is_word(letters, self.weights):
            return [OUTSIDE_LIMITS]
        alone = outcome([letters], self.weights)
        return [0, alone[0], alone[1]]

    def first(self):
        """Answer the time of the race and the probability of each word."""
        if len(self.words) == 0:
            return [NOTHING_THERE]
        return [len(self.words)] + outcome(self.words, self.weights)
