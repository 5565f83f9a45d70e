"""word: the numbers of the words, and what it refuses, in which order."""

import unittest

from asking import all_words, ask, ask_last, begin, first, fits, wait, word

FOUR = [word(0, 0, 1), word(0, 1, 0), word(1, 0, 0), word(0, 0, 0)]
NO_WORDS = [
    [], [0] * 6, [0, 1, 0, 1, 0, 1], [1] * 7, [0] * 8,
    [2], [0, 2], [2, 0], [0, 0, 0, 0, 2], [3, 1], [4294967295], [0, 4294967295, 0],
]


class Word(unittest.TestCase):

    def test_returns_the_numbers_0_to_3(self):
        self.assertEqual(ask(*FOUR), [[0], [1], [2], [3]])
        self.assertEqual(ask(begin(1, 2, 3), word(2), word(0, 1, 0, 1, 0), word(1, 1), word(0, 0)),
                         [[6], [0], [1], [2], [3]])

    def test_takes_words_of_1_to_5_letters(self):
        for length in range(1, 6):
            for letters in all_words(3, length):
                self.assertEqual(ask_last(begin(1, 1, 1), word(*letters)), [0])

    def test_takes_words_that_only_overlap(self):
        self.assertEqual(ask(word(0, 0, 1), word(0, 1, 1), word(1, 0, 0)), [[0], [1], [2]])

    def test_parts_must_be_contiguous(self):
        self.assertEqual(ask(word(0, 0), word(0, 1, 0, 1, 0)), [[0], [1]])
        self.assertEqual(ask(word(0, 1, 0, 1, 0), word(0, 0)), [[0], [1]])

    def test_refuses_what_is_no_word(self):
        for letters in NO_WORDS:
            self.assertEqual(ask(word(*letters)), [[-1]], letters)

    def test_the_third_letter_is_there_only_with_three_weights(self):
        self.assertEqual(ask(word(2), begin(1, 1, 1), word(2), word(3), word(0, 3)),
                         [[-1], [3], [0], [-1], [-1]])

    def test_refuses_a_word_within_one_of_the_race(self):
        for part in ([0], [1], [2], [0, 1], [1, 2], [2, 0], [0, 1, 2], [1, 2, 0], [0, 1, 2, 0]):
            self.assertEqual(ask_last(begin(1, 1, 1), word(0, 1, 2, 0, 0), word(*part)), [-6, 0], part)

    def test_refuses_a_word_around_one_of_the_race(self):
        for whole in ([0, 1, 0], [0, 1, 1], [1, 0, 1], [0, 0, 0, 0, 1], [1, 0, 1, 0, 0]):
            self.assertEqual(ask(word(0, 1), word(*whole)), [[0], [-6, 0]], whole)

    def test_refuses_the_same_word(self):
        for letters in ([0], [1, 0], [0, 1, 1, 0, 1]):
            self.assertEqual(ask(word(*letters), word(*letters)), [[0], [-6, 0]])

    def test_tells_which_word_it_is(self):
        for number, call in enumerate(FOUR[:3]):
            self.assertEqual(ask(*FOUR[:3], call)[-1], [-6, number])

    def test_tells_the_first_of_several_words(self):
        three = [word(1, 1, 1), word(0, 1), word(0, 0)]
        self.assertEqual(ask_last(*three, word(0)), [-6, 1])
        self.assertEqual(ask_last(*three, word(1)), [-6, 0])
        self.assertEqual(ask_last(*three, word(0, 0, 1)), [-6, 1])
        self.assertEqual(ask_last(word(0, 0), word(0, 1), word(0, 0, 1)), [-6, 0])
        self.assertEqual(ask_last(*three, word(0, 0, 1, 1, 1)), [-6, 0])
        # One word lies in the new one, and the new one in another: the order of the race counts.
        self.assertEqual(ask_last(word(0, 0, 1, 0), word(1, 1), word(0, 0, 1)), [-6, 0])

    def test_pairs_of_words_are_refused_as_the_words_say(self):
        some = [letters for length in range(1, 5) for letters in all_words(2, length)]
        for one in some:
            for other in some:
                answer = [1] if fits([one], other) else [-6, 0]
                self.assertEqual(ask(word(*one), word(*other)), [[0], answer])

    def test_refuses_a_fifth_word(self):
        self.assertEqual(ask_last(*FOUR, word(1, 1, 1)), [-5])
        self.assertEqual(ask_last(*FOUR, word(1, 1, 0, 1, 1)), [-5])

    def test_a_fifth_word_that_is_contained_is_refused_for_that(self):
        self.assertEqual(ask_last(*FOUR, word(1)), [-6, 0])
        self.assertEqual(ask_last(*FOUR, word(0, 0, 0)), [-6, 3])
        self.assertEqual(ask_last(*FOUR, word(1, 1, 0, 1, 0)), [-6, 1])

    def test_no_word_is_refused_before_all_else(self):
        for letters in NO_WORDS:
            self.assertEqual(ask_last(word(0), word(1), word(*letters)), [-1], letters)
            self.assertEqual(ask_last(*FOUR, word(*letters)), [-1], letters)

    def test_adds_nothing_when_it_refuses(self):
        refused = [word(), word(0, 2), word(0, 1), word(0), word(1, 0, 1)]
        self.assertEqual(ask(word(0, 1), *refused, first(), word(1, 0), first()),
                         [[0], [-1], [-1], [-6, 0], [-6, 0], [-6, 0], [1, 4, 1, 1, 1], [1],
                          [2, 3, 1, 1, 2, 1, 2]])

    def test_adds_no_fifth_word(self):
        plain = ask_last(*FOUR, first())
        self.assertEqual(ask(*FOUR, word(1, 1, 1), first(), word(1, 1), first())[4:],
                         [[-5], plain, [-5], plain])

    def test_changes_no_weight_when_it_refuses(self):
        self.assertEqual(ask_last(begin(1, 3), word(2), word(), wait(0)), [0, 4, 1])
