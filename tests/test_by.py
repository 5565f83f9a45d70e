"""by: how the race stands after a number of letters."""

import unittest
from fractions import Fraction

from asking import (after, ask, ask_last, ask_race, begin, by, ended_within, exchanges, expected_by, first,
                    fractions, ring, some_races, wait, word)

TOO_MANY = [31, 32, 40, 255, 256, 4294967295]


def standings(weights, words, counts):
    """Return the fractions of by for each of the numbers of letters."""
    given = ask_race(weights, words, *[by(count) for count in counts])
    assert all(answer[0] == len(words) for answer in given)
    return [fractions(answer[1:]) for answer in given]


class By(unittest.TestCase):

    def test_two_words(self):
        words = [(0, 1, 0), (0, 0, 1)]
        self.assertEqual(ask_race((1, 1), words, by(2), by(3), by(4)),
                         [[2, 1, 1, 0, 1, 0, 1], [2, 3, 4, 1, 8, 1, 8], [2, 9, 16, 3, 16, 1, 4]])

    def test_no_letters(self):
        for weights, words in some_races(11, 200):
            self.assertEqual(ask_race(weights, words, by(0)), [[len(words), 1, 1] + [0, 1] * len(words)])

    def test_a_word_of_one_letter(self):
        self.assertEqual(ask_race((1, 2), [(0,)], by(1), by(2), by(3)),
                         [[1, 2, 3, 1, 3], [1, 4, 9, 5, 9], [1, 8, 27, 19, 27]])
        for count in range(31):
            left = Fraction(19, 26) ** count
            self.assertEqual(standings((7, 9, 10), [(0,)], [count]), [[left, 1 - left]])

    def test_words_of_different_lengths(self):
        self.assertEqual(ask_race((1, 1), [(0,), (1, 1)], by(1), by(2)),
                         [[2, 1, 2, 1, 2, 0, 1], [2, 0, 1, 3, 4, 1, 4]])
        self.assertEqual(ask_race((1, 2), [(1, 1, 1), (0,)], by(1), by(2), by(3)),
                         [[2, 2, 3, 0, 1, 1, 3], [2, 4, 9, 0, 1, 5, 9], [2, 0, 1, 8, 27, 19, 27]])

    def test_nothing_is_open_when_the_race_is_sure_to_have_ended(self):
        words = [(0, 0), (0, 1), (1, 0), (1, 1)]
        self.assertEqual(ask_race((1, 3), words, by(1)), [[4, 1, 1] + [0, 1] * 4])
        for count in (2, 3, 4, 30):
            self.assertEqual(ask_race((1, 3), words, by(count)),
                             [[4, 0, 1, 1, 16, 3, 16, 3, 16, 9, 16]])
        for count in (1, 2, 30):
            self.assertEqual(ask_race((1, 2, 3), [(2,), (0,), (1,)], by(count)),
                             [[3, 0, 1, 1, 2, 1, 6, 1, 3]])

    def test_against_all_sequences_of_so_many_letters(self):
        for weights, words, most in [
                ((1, 1), [(0, 1, 0), (0, 0, 1)], 10), ((2, 1), [(0, 0, 0, 0), (1, 0, 0), (1, 1)], 10),
                ((3, 7), [(0, 1, 1, 0, 1)], 10), ((5, 4), [(0, 0, 0), (0, 1, 0), (1, 1), (1, 0, 0)], 9),
                ((1, 3, 2), [(0, 1), (2, 2), (1, 0, 0)], 7), ((4, 1, 10), [(2, 2, 2, 0, 0)], 7),
                ((2, 2, 5), [(0,), (1, 2, 1, 2), (2, 2, 2), (1, 1)], 7)]:
            for count, found in enumerate(standings(weights, words, range(most + 1))):
                left, ended = ended_within(weights, count, *words)
                self.assertEqual(found, [left] + ended, (weights, words, count))

    def test_0_to_30_letters_against_overlaps(self):
        sizes = set()
        for weights, words in some_races(12, 150):
            self.assertEqual(standings(weights, words, range(31)), expected_by(weights, 30, *words),
                             (weights, words))
            sizes.add((len(weights), len(words)))
        self.assertEqual(sizes, {(count, size) for count in (2, 3) for size in (1, 2, 3, 4)})

    def test_30_letters_of_great_weights(self):
        words = [(0, 1, 2, 0, 1), (1, 1, 2, 2, 0), (2, 0, 0, 1, 0), (2, 2, 1, 0, 2)]
        for weights in ((10, 9, 10), (7, 9, 10), (10, 10, 10), (1, 10, 10)):
            answer = ask_race(weights, words, by(30))[0]
            self.assertEqual(fractions(answer[1:]), expected_by(weights, 30, *words)[30])
        answer = ask_race((10, 9, 10), [(0, 1, 2, 0, 1)], by(30))[0]
        self.assertEqual(answer[2], 29 ** 30)
        self.assertEqual(answer[4], 29 ** 30)
        self.assertEqual(answer[1] + answer[3], 29 ** 30)

    def test_all_adds_up_to_1(self):
        for weights, words in some_races(13, 200):
            for found in standings(weights, words, (0, 1, 5, 17, 30)):
                self.assertEqual(sum(found), 1)

    def test_first_is_not_less_and_not_greater_by_more_than_is_open(self):
        for weights, words in some_races(14, 150):
            chances = fractions(ask_race(weights, words, first())[0][3:])
            for found in standings(weights, words, range(31)):
                for least, chance in zip(found[1:], chances):
                    self.assertTrue(least <= chance <= least + found[0], (weights, words))

    def test_more_letters_leave_less_open(self):
        for weights, words in some_races(15, 100):
            found = standings(weights, words, range(31))
            for earlier, later in zip(found, found[1:]):
                self.assertLessEqual(later[0], earlier[0])
                self.assertTrue(all(now >= then for now, then in zip(later[1:], earlier[1:])))

    def test_fractions_are_in_lowest_terms(self):
        for weights, words in some_races(16, 100):
            for answer in ask_race(weights, words, *[by(count) for count in range(31)]):
                self.assertEqual(len(answer), 3 + 2 * len(words))
                for at in range(1, len(answer), 2):
                    fraction = Fraction(answer[at], answer[at + 1])
                    self.assertEqual(answer[at:at + 2], [fraction.numerator, fraction.denominator])
                    self.assertIs(int, answer[at].__class__)

    def test_refuses_more_than_30_letters(self):
        for count in TOO_MANY:
            self.assertEqual(ask(by(count)), [[-1]])
            self.assertEqual(ask(begin(1, 2, 3), by(count)), [[6], [-1]])
            self.assertEqual(ask_race((2, 3), [(0, 1), (1, 0)], by(count), by(count)), [[-1], [-1]])
        self.assertEqual(ask_race((2, 3), [(0,), (1,)], by(30)), [[2, 0, 1, 2, 5, 3, 5]])

    def test_no_words(self):
        for count in (0, 1, 2, 29, 30):
            self.assertEqual(ask(by(count)), [[-11]])
            self.assertEqual(ask_last(begin(1, 2, 3), by(count)), [-11])
            self.assertEqual(ask_last(word(0), begin(1, 1), by(count)), [-11])
            self.assertEqual(ask_last(word(2), word(), by(count)), [-11])

    def test_changes_nothing(self):
        words = [(0, 0, 1), (1, 0)]
        asked = [first(), wait(0, 1), word(1, 1, 1), first()]
        plain = ask_race((2, 3), words, *asked)
        for count in [0, 1, 7, 30] + TOO_MANY:
            self.assertEqual(ask_race((2, 3), words, by(count), *asked)[1:], plain, count)
        self.assertEqual(ask(by(5), by(31), word(0, 1), first()), [[-11], [-1], [0], [1, 4, 1, 1, 1]])

    def test_the_number_of_letters_is_no_list(self):
        self.assertEqual(ask(by(0), first(), by(2), wait(0), by(6), ring(2), by(5), after()),
                         [[-11], [-11], [-11], [0, 2, 1], [-11], [-11], [-11], [-11]])

    def test_exchanged_letters(self):
        calls = [by(count) for count in (0, 1, 4, 11, 30)]
        for weights, words in some_races(17, 60):
            plain = ask_race(weights, words, *calls)
            for other, exchanged in exchanges(weights, *words):
                self.assertEqual(ask_race(other, exchanged, *calls), plain, (weights, words, other))

    def test_multiplied_weights(self):
        calls = [by(count) for count in range(31)]
        for weights, words in [((1, 2), [(0, 1, 0), (0, 0, 1)]), ((2, 1, 2), [(0, 1), (2, 2), (1, 0, 0)]),
                               ((1, 1, 1), [(0, 1, 2, 1, 0)])]:
            plain = ask_race(weights, words, *calls)
            for factor in range(2, 6):
                self.assertEqual(ask_race([factor * one for one in weights], words, *calls), plain)

    def test_a_further_word_makes_nothing_greater(self):
        for weights, words in some_races(18, 150):
            if len(words) > 1:
                for more, less in zip(standings(weights, words[:-1], range(0, 31, 3)),
                                      standings(weights, words, range(0, 31, 3))):
                    self.assertTrue(all(now <= then for now, then in zip(less, more)), (weights, words))
