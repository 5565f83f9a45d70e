"""begin: the weights, their sum, and what it refuses."""

import unittest

from asking import ask, ask_last, begin, first, wait, word

REFUSED = [
    [], [1], [10], [1, 1, 1, 1], [1, 2, 3, 4, 5, 6, 7, 8], [3] * 8,
    [0, 1], [1, 0], [0, 0], [1, 0, 1], [1, 1, 0],
    [11, 1], [1, 11], [1, 11, 1], [1, 1, 11],
    [4294967295, 1], [1, 4294967295], [1, 1, 4294967295], [4294967295] * 3,
]


class Begin(unittest.TestCase):

    def test_returns_the_sum(self):
        for one in range(1, 11):
            for two in range(1, 11):
                self.assertEqual(ask(begin(one, two)), [[one + two]])
                for three in (1, 4, 10):
                    self.assertEqual(ask(begin(one, two, three)), [[one + two + three]])

    def test_refuses_weights(self):
        for weights in REFUSED:
            self.assertEqual(ask(begin(*weights)), [[-1]], weights)

    def test_sets_the_weights(self):
        self.assertEqual(ask_last(begin(1, 3), wait(0)), [0, 4, 1])
        self.assertEqual(ask_last(begin(1, 3), wait(1)), [0, 4, 3])
        self.assertEqual(ask_last(begin(1, 3, 6), wait(2)), [0, 5, 3])

    def test_sets_how_many_letters_there_are(self):
        self.assertEqual(ask(begin(1, 1, 1), word(2), begin(1, 1), word(2), word(1)),
                         [[3], [0], [2], [-1], [0]])

    def test_removes_all_words(self):
        self.assertEqual(ask(word(0, 1), word(1, 0), begin(1, 1), first(), word(0, 1), first()),
                         [[0], [1], [2], [-11], [0], [1, 4, 1, 1, 1]])

    def test_changes_nothing_when_it_refuses(self):
        before = [begin(2, 3, 1), word(2, 1), word(0)]
        asked = [wait(2), wait(0, 1, 0), first(), word(1, 1), word(3)]
        plain = ask(*before, *asked)[len(before):]
        for weights in REFUSED:
            self.assertEqual(ask(*before, begin(*weights), *asked)[len(before) + 1:], plain, weights)

    def test_changes_nothing_of_the_first_state_when_it_refuses(self):
        for weights in REFUSED:
            self.assertEqual(ask(begin(*weights), word(2), wait(0, 1), first(), word(1)),
                             [[-1], [-1], [0, 4, 1], [-11], [0]], weights)
