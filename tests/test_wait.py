"""wait: the time of the race of one word alone."""

import unittest
from fractions import Fraction

from asking import all_words, ask, ask_last, begin, chance_of, expected, first, fractions, wait, word

SOME_WEIGHTS = [(1, 1), (1, 2), (10, 1), (3, 7), (1, 1, 1), (1, 2, 3), (10, 1, 9)]
NO_WORDS = [[], [0] * 6, [1] * 8, [2], [0, 2, 0], [0, 0, 0, 0, 3], [4294967295]]


class Wait(unittest.TestCase):

    def test_fair_coin(self):
        self.assertEqual(ask_last(wait(0)), [0, 2, 1])
        self.assertEqual(ask_last(wait(0, 0)), [0, 6, 1])
        self.assertEqual(ask_last(wait(0, 1)), [0, 4, 1])
        self.assertEqual(ask_last(wait(0, 0, 0, 0, 0)), [0, 62, 1])
        self.assertEqual(ask_last(wait(0, 1, 0, 1, 0)), [0, 42, 1])
        self.assertEqual(ask_last(wait(0, 1, 1, 0, 1)), [0, 36, 1])
        self.assertEqual(ask_last(wait(0, 0, 0, 0, 1)), [0, 32, 1])

    def test_weights_that_differ(self):
        self.assertEqual(ask_last(begin(2, 1), wait(0)), [0, 3, 2])
        self.assertEqual(ask_last(begin(2, 1), wait(0, 0)), [0, 15, 4])
        self.assertEqual(ask_last(begin(2, 1), wait(0, 1)), [0, 9, 2])
        self.assertEqual(ask_last(begin(1, 10, 10), wait(0, 0, 0, 0, 0)), [0, 4288305, 1])

    def test_every_word_against_its_overlaps(self):
        for weights in SOME_WEIGHTS:
            for length in range(1, 6 if len(weights) == 2 else 5):
                for letters in all_words(len(weights), length):
                    answer = ask_last(begin(*weights), wait(*letters))
                    time = expected(weights, letters)[0]
                    self.assertEqual(answer, [0, time.numerator, time.denominator], (weights, letters))

    def test_words_of_5_letters_of_three(self):
        calls = all_words(3, 5)
        for at in range(0, len(calls), 39):
            some = calls[at:at + 39]
            for letters, answer in zip(some, ask(begin(2, 5, 4), *[wait(*one) for one in some])[1:]):
                self.assertEqual(fractions(answer[1:]), expected((2, 5, 4), letters)[:1], letters)

    def test_a_word_whose_beginning_is_not_its_end_takes_1_by_its_chance(self):
        for letters in ([0], [0, 1], [0, 0, 1], [0, 1, 1, 1], [0, 0, 1, 0, 1]):
            time = fractions(ask_last(begin(3, 4), wait(*letters))[1:])[0]
            self.assertEqual(time, 1 / chance_of((3, 4), letters))

    def test_a_beginning_that_is_the_end_takes_longer(self):
        for letters in ([0, 0], [0, 1, 0], [0, 1, 0, 1], [0, 1, 1, 0, 1]):
            time = fractions(ask_last(begin(3, 4), wait(*letters))[1:])[0]
            self.assertGreater(time, 1 / chance_of((3, 4), letters))

    def test_gives_the_time_of_first_for_this_word_alone(self):
        for weights in SOME_WEIGHTS:
            for length in range(1, 5):
                for letters in all_words(len(weights), length):
                    alone = ask(begin(*weights), wait(*letters), word(*letters), first())
                    self.assertEqual(alone[3], [1] + alone[1][1:] + [1, 1])

    def test_the_race_does_not_matter(self):
        race = [word(0, 0, 1), word(1, 0), word(1, 1, 1)]
        for letters in ([0], [1, 0], [0, 0, 1], [0, 1, 0], [1, 1, 1, 1]):
            plain = ask_last(begin(2, 3), wait(*letters))
            self.assertEqual(ask_last(begin(2, 3), *race, wait(*letters)), plain)

    def test_the_race_stays_as_it_is(self):
        race = [begin(2, 3), word(0, 0, 1), word(1, 0)]
        self.assertEqual(ask(*race, wait(0, 1, 0), wait(1), first(), word(1, 1, 1))[-2:],
                         ask(*race, first(), word(1, 1, 1))[-2:])

    def test_refuses_what_is_no_word(self):
        for letters in NO_WORDS:
            self.assertEqual(ask(wait(*letters)), [[-1]], letters)
            self.assertEqual(ask_last(word(0), word(1), wait(*letters)), [-1], letters)
        self.assertEqual(ask(begin(1, 1, 1), wait(3), wait(2)), [[3], [-1], [0, 3, 1]])

    def test_changes_nothing_when_it_refuses(self):
        race = [begin(2, 3), word(0, 0, 1), word(1, 0)]
        plain = ask(*race, first(), wait(0))[-2:]
        for letters in NO_WORDS:
            self.assertEqual(ask(*race, wait(*letters), first(), wait(0))[-2:], plain)

    def test_exchanged_letters_and_multiplied_weights(self):
        for letters in all_words(2, 4):
            plain = ask_last(begin(2, 3), wait(*letters))
            self.assertEqual(ask_last(begin(3, 2), wait(*[1 - letter for letter in letters])), plain)
            self.assertEqual(ask_last(begin(6, 9), wait(*letters)), plain)

    def test_a_whole_time_has_the_denominator_1(self):
        answer = ask_last(begin(10, 10), wait(0, 0, 1))
        self.assertEqual(answer, [0, 8, 1])
        self.assertEqual(Fraction(answer[1], answer[2]), 8)
