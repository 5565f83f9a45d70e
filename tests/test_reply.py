"""reply: the best reply to a word."""

import unittest
from fractions import Fraction

from asking import (all_words, ask, ask_last, ask_race, begin, exchanges, expected_against, first, race, reply,
                    ring, wait, word)

SOME_WEIGHTS = [(1, 1), (1, 2), (10, 1), (3, 7), (1, 1, 1), (1, 2, 3), (10, 1, 9), (2, 2, 5)]
NO_WORDS = [[], [0] * 6, [1] * 7, [0] * 8, [2], [0, 2], [2, 0, 1], [0, 0, 0, 0, 3], [4294967295]]


def replies(weights, words):
    """Return the answer of reply to each of the words; at most 6 of them are asked for at once."""
    found = []
    for at in range(0, len(words), 6):
        found.extend(ask(begin(*weights), *[reply(*letters) for letters in words[at:at + 6]])[1:])
    return found


def best_by_overlaps(weights, letters):
    """Return the answer of reply as a search through all words gives it."""
    others = [other for other in all_words(len(weights), len(letters)) if other != tuple(letters)]
    chances = [expected_against(weights, other, letters) for other in others]
    best = max(chances)
    return [0, best.numerator, best.denominator, *others[chances.index(best)]]


class Reply(unittest.TestCase):

    def test_fair_coin(self):
        self.assertEqual(ask(reply(0, 0, 0)), [[0, 7, 8, 1, 0, 0]])
        self.assertEqual(ask(reply(0, 0, 1), reply(0, 1, 0), reply(0, 1, 1), reply(1, 0, 0), reply(1, 1, 1)),
                         [[0, 3, 4, 1, 0, 0], [0, 2, 3, 0, 0, 1], [0, 2, 3, 0, 0, 1], [0, 2, 3, 1, 1, 0],
                          [0, 7, 8, 0, 1, 1]])

    def test_weights_that_differ(self):
        self.assertEqual(ask(begin(1, 2), reply(0, 1)), [[3], [0, 2, 3, 1, 0]])

    def test_words_of_one_letter(self):
        self.assertEqual(ask(reply(0), reply(1)), [[0, 1, 2, 1], [0, 1, 2, 0]])
        self.assertEqual(ask(begin(1, 10), reply(0), reply(1)), [[11], [0, 10, 11, 1], [0, 1, 11, 0]])
        self.assertEqual(ask(begin(1, 2, 3), reply(0), reply(1), reply(2)),
                         [[6], [0, 3, 4, 2], [0, 3, 5, 2], [0, 2, 5, 1]])

    def test_of_several_best_replies_the_first_one(self):
        self.assertEqual(ask(reply(0, 1), reply(1, 0)), [[0, 1, 2, 0, 0], [0, 1, 2, 0, 1]])
        self.assertEqual(ask(begin(1, 1, 1), reply(0), reply(1), reply(2), reply(0, 0)),
                         [[3], [0, 1, 2, 1], [0, 1, 2, 0], [0, 1, 2, 0], [0, 2, 3, 1, 0]])
        self.assertEqual(ask(begin(1, 5, 5), reply(0), reply(0, 0)), [[11], [0, 5, 6, 1], [0, 300, 311, 1, 2]])

    def test_every_word_of_two_letters_against_overlaps(self):
        for weights in SOME_WEIGHTS[:4]:
            for length in range(1, 6):
                words = all_words(2, length)
                for letters, answer in zip(words, replies(weights, words)):
                    self.assertEqual(answer, best_by_overlaps(weights, letters), (weights, letters))

    def test_words_of_three_letters_against_overlaps(self):
        for weights in SOME_WEIGHTS[4:]:
            for length in range(1, 4):
                words = all_words(3, length)
                for letters, answer in zip(words, replies(weights, words)):
                    self.assertEqual(answer, best_by_overlaps(weights, letters), (weights, letters))
            words = all_words(3, 4)[::8] + all_words(3, 5)[::30]
            for letters, answer in zip(words, replies(weights, words)):
                self.assertEqual(answer, best_by_overlaps(weights, letters), (weights, letters))

    def test_no_word_of_the_same_length_is_better(self):
        for weights in ((1, 1), (2, 3), (1, 4, 2)):
            for letters in all_words(len(weights), 3):
                answer = ask_last(begin(*weights), reply(*letters))
                best = Fraction(answer[1], answer[2])
                for other in all_words(len(weights), 3):
                    if other != letters:
                        chance = Fraction(*race(weights, other, letters)[3:5])
                        self.assertLessEqual(chance, best)
                        if list(other) < answer[3:]:
                            self.assertLess(chance, best)
                        if list(other) == answer[3:]:
                            self.assertEqual(chance, best)

    def test_the_reply_is_another_word_of_the_same_length(self):
        for weights in SOME_WEIGHTS:
            for length in range(1, 6):
                words = all_words(len(weights), length)[::9]
                for letters, answer in zip(words, replies(weights, words)):
                    self.assertEqual((answer[0], len(answer)), (0, 3 + length))
                    self.assertNotEqual(tuple(answer[3:]), letters)

    def test_fractions_are_in_lowest_terms(self):
        for weights in SOME_WEIGHTS:
            for answer in replies([2 * one if max(weights) < 6 else one for one in weights],
                                  all_words(len(weights), 3)):
                chance = Fraction(answer[1], answer[2])
                self.assertEqual(answer[1:3], [chance.numerator, chance.denominator])

    def test_the_race_does_not_matter(self):
        for words in ([(0, 0, 1), (1, 0)], [(0,)], [(0, 1, 1, 0), (1, 1, 1), (0, 0, 0), (1, 0, 0)]):
            for letters in ([0], [1, 0], [0, 0, 1], [0, 1, 0], [1, 1, 1, 1], [0, 1, 1, 0, 1]):
                plain = ask_last(begin(2, 3), reply(*letters))
                self.assertEqual(ask_race((2, 3), words, reply(*letters)), [plain])

    def test_the_race_stays_as_it_is(self):
        words = [(0, 0, 1), (1, 0)]
        asked = [first(), wait(0), word(1, 1, 1), first()]
        plain = ask_race((2, 3), words, *asked)
        for letters in [[0], [0, 1], [1, 1, 1], [0, 1, 0, 1, 1]] + NO_WORDS:
            self.assertEqual(ask_race((2, 3), words, reply(*letters), *asked)[1:], plain, letters)
        self.assertEqual(ask(reply(0, 0), first(), word(0), first()),
                         [[0, 3, 4, 1, 0], [-11], [0], [1, 2, 1, 1, 1]])

    def test_refuses_what_is_no_word(self):
        for letters in NO_WORDS:
            self.assertEqual(ask(reply(*letters)), [[-1]], letters)
            self.assertEqual(ask_race((2, 3), [(0,), (1,)], reply(*letters)), [[-1]], letters)
        self.assertEqual(ask(begin(1, 1, 1), reply(2), reply(3), reply(0, 3), reply(0, 0, 0, 0, 0, 0)),
                         [[3], [0, 1, 2, 0], [-1], [-1], [-1]])
        self.assertEqual(ask_last(begin(1, 1, 1), begin(1, 1), reply(2)), [-1])

    def test_exchanged_letters(self):
        for weights in ((2, 3), (1, 4, 2)):
            for letters in all_words(len(weights), 3):
                best = ask_last(begin(*weights), reply(*letters))
                for other, (exchanged, answer) in exchanges(weights, letters, best[3:]):
                    found = ask_last(begin(*other), reply(*exchanged))
                    self.assertEqual(found[:3], best[:3])
                    chance = Fraction(*race(other, answer, exchanged)[3:5])
                    self.assertEqual(chance, Fraction(best[1], best[2]))

    def test_multiplied_weights(self):
        for weights in ((1, 1), (1, 2), (1, 1, 1), (2, 1, 2)):
            words = all_words(len(weights), 3)
            plain = replies(weights, words)
            for factor in range(2, 6):
                self.assertEqual(replies([factor * one for one in weights], words), plain)

    def test_the_letters_are_a_list(self):
        self.assertEqual(ask(reply(), ring(2), reply(3, 3, 3), first()), [[-1], [-11], [-1], [-11]])
