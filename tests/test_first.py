"""first: the time of the race and the probability of each word."""

import unittest
from fractions import Fraction
from itertools import permutations

from asking import (all_words, ask, ask_last, begin, ended_within, exchanges, expected, first, fractions,
                    race, some_races, time_and_chances, wait, word)


class First(unittest.TestCase):

    def test_one_word(self):
        self.assertEqual(race((1, 1), [0]), [1, 2, 1, 1, 1])
        self.assertEqual(race((1, 1), [0, 0, 0]), [1, 14, 1, 1, 1])
        self.assertEqual(race((2, 1), [0]), [1, 3, 2, 1, 1])

    def test_two_words(self):
        self.assertEqual(race((1, 1), [0, 1, 0], [0, 0, 1]), [2, 6, 1, 1, 3, 2, 3])
        self.assertEqual(race((1, 1), [0, 0, 0], [1, 0, 0]), [2, 7, 1, 1, 8, 7, 8])
        self.assertEqual(race((1, 2), [0], [1]), [2, 1, 1, 1, 3, 2, 3])

    def test_words_of_different_lengths(self):
        self.assertEqual(race((1, 1), [0], [1, 1]), [2, 3, 2, 3, 4, 1, 4])
        self.assertEqual(race((1, 2), [0], [1, 1, 1]), [2, 19, 9, 19, 27, 8, 27])

    def test_three_and_four_words(self):
        self.assertEqual(race((1, 2, 3), [0], [1], [2]), [3, 1, 1, 1, 6, 1, 3, 1, 2])
        self.assertEqual(race((1, 1), [0, 0], [0, 1], [1, 0], [1, 1]),
                         [4, 2, 1, 1, 4, 1, 4, 1, 4, 1, 4])
        self.assertEqual(race((1, 3), [0, 0], [0, 1], [1, 0], [1, 1]),
                         [4, 2, 1, 1, 16, 3, 16, 3, 16, 9, 16])

    def test_the_words_are_in_their_order(self):
        words = [(0, 1, 0), (0, 0, 1), (1, 1), (2,)]
        time, chances = time_and_chances((3, 4, 5), *words)
        for order in permutations(range(4)):
            found = time_and_chances((3, 4, 5), *[words[number] for number in order])
            self.assertEqual(found, (time, [chances[number] for number in order]))

    def test_all_pairs_of_words_of_3_letters_against_their_overlaps(self):
        for weights in ((1, 1), (1, 2), (10, 7)):
            for one in all_words(2, 3):
                for other in all_words(2, 3):
                    if one != other:
                        found = fractions(race(weights, one, other)[1:])
                        self.assertEqual(found, expected(weights, one, other), (weights, one, other))

    def test_many_races_against_their_overlaps(self):
        sizes = set()
        for weights, words in some_races(1, 1500):
            answer = race(weights, *words)
            self.assertEqual(answer[0], len(words))
            self.assertEqual(fractions(answer[1:]), expected(weights, *words), (weights, words))
            sizes.add((len(weights), len(words)))
        self.assertEqual(sizes, {(count, size) for count in (2, 3) for size in (1, 2, 3, 4)})

    def test_against_all_sequences_of_some_length(self):
        for weights, words, length in [
                ((1, 1), [(0, 1, 0), (0, 0, 1)], 12), ((2, 1), [(0, 0, 0, 0), (1, 0, 0), (1, 1)], 12),
                ((1, 3, 2), [(0, 1), (2, 2), (1, 0, 0)], 8), ((4, 1), [(0, 1, 1)], 12)]:
            running, ended = ended_within(weights, length, *words)
            for chance, least in zip(time_and_chances(weights, *words)[1], ended):
                self.assertTrue(least <= chance <= least + running, (weights, words))

    def test_the_probabilities_add_up_to_1(self):
        for weights, words in some_races(2, 400):
            self.assertEqual(sum(time_and_chances(weights, *words)[1]), 1)

    def test_fractions_are_in_lowest_terms(self):
        for weights, words in some_races(3, 400):
            answer = race(weights, *words)
            self.assertEqual(len(answer), 3 + 2 * len(words))
            for at in range(1, len(answer), 2):
                fraction = Fraction(answer[at], answer[at + 1])
                self.assertEqual(answer[at:at + 2], [fraction.numerator, fraction.denominator])

    def test_whole_numbers_have_the_denominator_1(self):
        self.assertEqual(race((10, 10), [0, 0]), [1, 6, 1, 1, 1])
        self.assertEqual(race((5, 5), [0], [1])[1:3], [1, 1])

    def test_answers_are_plain_whole_numbers(self):
        for number in race((3, 4), [0, 0], [1]):
            self.assertIs(int, number.__class__)

    def test_no_words(self):
        self.assertEqual(ask(first()), [[-11]])
        self.assertEqual(ask(begin(1, 2, 3), first()), [[6], [-11]])
        self.assertEqual(ask(word(0), begin(1, 1), first(), first()), [[0], [2], [-11], [-11]])
        self.assertEqual(ask(word(2), wait(0), first()), [[-1], [0, 2, 1], [-11]])

    def test_changes_nothing(self):
        self.assertEqual(ask(first(), word(0, 1), first(), first(), word(1, 0), first()),
                         [[-11], [0], [1, 4, 1, 1, 1], [1, 4, 1, 1, 1], [1], [2, 3, 1, 1, 2, 1, 2]])

    def test_exchanged_letters(self):
        for weights, words in some_races(4, 100):
            plain = race(weights, *words)
            for other, exchanged in exchanges(weights, *words):
                self.assertEqual(race(other, *exchanged), plain, (weights, words, other))

    def test_multiplied_weights(self):
        for words in ([(0, 1, 0), (0, 0, 1)], [(0, 0), (1,)], [(1, 1, 0, 1, 0)]):
            plain = race((1, 2), *words)
            for factor in range(2, 6):
                self.assertEqual(race((factor, 2 * factor), *words), plain)
        words = [(0, 1, 2), (2, 2), (1, 0)]
        self.assertEqual(race((3, 9, 6), *words), race((1, 3, 2), *words))

    def test_a_further_word_makes_nothing_greater(self):
        for weights, words in some_races(5, 400):
            if len(words) > 1:
                time, chances = time_and_chances(weights, *words[:-1])
                less_time, less = time_and_chances(weights, *words)
                self.assertLessEqual(less_time, time)
                self.assertTrue(all(now <= then for now, then in zip(less, chances)), (weights, words))

    def test_a_word_refused_does_not_race(self):
        plain = ask_last(word(0, 1, 0), word(0, 0, 1), first())
        self.assertEqual(ask_last(word(0, 1, 0), word(1), word(0, 0, 1), word(2), first()), plain)
