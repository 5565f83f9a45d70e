"""ring: words that beat one another in a circle."""

import unittest
from fractions import Fraction
from itertools import permutations, product

from asking import (all_words, ask, ask_last, ask_race, begin, expected_against, first, race, reply, ring, wait,
                    word)

OUTSIDE = [0, 4, 5, 6, 255, 4294967295]


def as_answer(words):
    return [len(words)] + [letter for letters in words for letter in letters]


def found_by_search(weights, length):
    """Return the answer of ring as a search through all words in a circle gives it."""
    words = all_words(len(weights), length)
    beats = {(v, w) for v, w in permutations(words, 2) if expected_against(weights, v, w) > Fraction(1, 2)}
    for size in (3, 4):
        # Walked in order, so the first ring found is the one that comes first.
        for circle in permutations(words, size):
            if circle[0] == min(circle) and all(pair in beats for pair in zip(circle, circle[1:] + circle[:1])):
                return as_answer(circle)
    return [-11]


class Ring(unittest.TestCase):

    def test_fair_coin(self):
        self.assertEqual(ask(ring(1), ring(2), ring(3)),
                         [[-11], [-11], [4, 0, 0, 1, 0, 1, 1, 1, 1, 0, 1, 0, 0]])

    def test_rings_of_three_words(self):
        self.assertEqual(ask(begin(1, 2), ring(2), ring(3)),
                         [[3], [3, 0, 1, 1, 1, 1, 0], [3, 0, 1, 1, 1, 1, 0, 1, 0, 1]])
        self.assertEqual(ask(begin(2, 1), ring(2)), [[3], [3, 0, 0, 0, 1, 1, 0]])
        self.assertEqual(ask(begin(1, 1, 1), ring(2)), [[3], [3, 0, 1, 1, 2, 2, 0]])
        self.assertEqual(ask(begin(1, 2, 3), ring(2)), [[6], [3, 1, 2, 2, 2, 2, 1]])

    def test_rings_of_four_words(self):
        self.assertEqual(ask(begin(2, 1, 1), ring(2)), [[4], [4, 0, 1, 1, 0, 0, 2, 2, 0]])
        self.assertEqual(ask(begin(1, 5, 1), ring(2)), [[7], [4, 0, 1, 1, 2, 2, 1, 1, 0]])
        self.assertEqual(ask(begin(4, 4), ring(3)), [[8], [4, 0, 0, 1, 0, 1, 1, 1, 1, 0, 1, 0, 0]])

    def test_no_ring(self):
        for weights in ((1, 3), (3, 1), (10, 1), (7, 7)):
            self.assertEqual(ask(begin(*weights), ring(2)), [[sum(weights)], [-11]])
        for weights in ((1, 4), (9, 1), (1, 10)):
            self.assertEqual(ask(begin(*weights), ring(3)), [[sum(weights)], [-11]])
        for weights in ((1, 2, 2), (1, 2, 10)):
            self.assertEqual(ask(begin(*weights), ring(2)), [[sum(weights)], [-11]])

    def test_words_of_one_letter_have_no_ring(self):
        for weights in list(product((1, 2, 5, 10), repeat=2)) + list(product((1, 2, 5, 10), repeat=3)):
            self.assertEqual(ask(begin(*weights), ring(1)), [[sum(weights)], [-11]])

    def test_two_letters_against_a_search(self):
        for weights in product(range(1, 11), repeat=2):
            for length in (1, 2, 3):
                self.assertEqual(ask_last(begin(*weights), ring(length)), found_by_search(weights, length),
                                 (weights, length))

    def test_three_letters_against_a_search(self):
        for weights in product((1, 2, 4, 7, 10), repeat=3):
            self.assertEqual(ask_last(begin(*weights), ring(2)), found_by_search(weights, 2), weights)
        for weights in ((1, 1, 1), (1, 2, 3), (3, 2, 1), (10, 1, 1), (5, 10, 3), (4, 10, 5), (7, 9, 10),
                        (1, 10, 10), (10, 2, 1), (3, 10, 5)):
            self.assertEqual(ask_last(begin(*weights), ring(3)), found_by_search(weights, 3), weights)

    def test_each_word_beats_the_next_one_in_the_race(self):
        for weights in list(product((1, 2, 3, 5), repeat=2)) + list(product((1, 2, 3), repeat=3)):
            for length in (2, 3):
                answer = ask_last(begin(*weights), ring(length))
                if answer != [-11]:
                    self.assertIn(answer[0], (3, 4))
                    self.assertEqual(len(answer), 1 + answer[0] * length)
                    words = [tuple(answer[at:at + length]) for at in range(1, len(answer), length)]
                    self.assertEqual(len(set(words)), answer[0])
                    self.assertEqual(words[0], min(words))
                    for v, w in zip(words, words[1:] + words[:1]):
                        self.assertGreater(Fraction(*race(weights, v, w)[3:5]), Fraction(1, 2))

    def test_words_that_are_as_good_do_not_beat_each_other(self):
        # With a ring of words that only are not beaten, there would be one here.
        self.assertEqual([race((1, 1), v, w)[3:5] for v, w in [((0, 0), (0, 1)), ((0, 1), (1, 0)), ((0, 0), (1, 1))]],
                         [[1, 2]] * 3)
        self.assertEqual(ask(ring(2)), [[-11]])

    def test_refuses_other_lengths(self):
        for length in OUTSIDE:
            self.assertEqual(ask(ring(length)), [[-1]])
            self.assertEqual(ask(begin(1, 2, 3), ring(length)), [[6], [-1]])
            self.assertEqual(ask_race((1, 2), [(0,), (1,)], ring(length)), [[-1]])

    def test_the_race_does_not_matter(self):
        for weights in ((1, 1), (1, 2), (1, 2, 3), (2, 1, 1)):
            for words in ([(0, 0, 1), (1, 0)], [(0,), (1,)], [(0, 1, 1, 0), (1, 1, 1), (0, 0, 0), (1, 0, 0)]):
                for length in (1, 2, 3):
                    plain = ask_last(begin(*weights), ring(length))
                    self.assertEqual(ask_race(weights, words, ring(length)), [plain])

    def test_the_race_stays_as_it_is(self):
        words = [(0, 0, 1), (1, 0)]
        asked = [first(), wait(0), word(1, 1, 1), first()]
        plain = ask_race((2, 3), words, *asked)
        for length in [1, 2, 3] + OUTSIDE:
            self.assertEqual(ask_race((2, 3), words, ring(length), *asked)[1:], plain, length)
        self.assertEqual(ask(ring(3), first(), word(0), ring(2), first())[1:], [[-11], [0], [-11], [1, 2, 1, 1, 1]])

    def test_multiplied_weights(self):
        for weights in ((1, 1), (1, 2), (1, 1, 1), (2, 1, 2), (2, 1, 1)):
            plain = ask(begin(*weights), ring(1), ring(2), ring(3))[1:]
            for factor in range(2, 6):
                other = [factor * one for one in weights]
                self.assertEqual(ask(begin(*other), ring(1), ring(2), ring(3))[1:], plain)

    def test_exchanged_letters(self):
        for weights in list(product((1, 2, 3, 4), repeat=2)) + [(1, 2, 3), (2, 1, 1), (1, 2, 2)]:
            for length in (2, 3):
                sizes = {ask_last(begin(*other), ring(length))[0] for other in permutations(weights)}
                self.assertEqual(len(sizes), 1, (weights, length))

    def test_the_length_is_no_list(self):
        self.assertEqual(ask(ring(1), first(), ring(2), reply(0), ring(0), first()),
                         [[-11], [-11], [-11], [0, 1, 2, 1], [-1], [-11]])
