"""after: how the race goes on when some letters have been drawn."""

import random
import unittest
from fractions import Fraction

from asking import (after, all_words, ask, ask_last, ask_race, begin, chance_of, exchanges, expected_after,
                    first, fractions, occurrence, some_letters, some_races, wait, word)

FOUR = [(0, 0, 1), (1, 0), (1, 1, 1, 1), (0, 0, 0)]


def goes_on(weights, words, drawn):
    """Return [time, probabilities] of after for the letters."""
    answer = ask_race(weights, words, after(*drawn))[0]
    assert answer[0] == len(words), answer
    return fractions(answer[1:])


def stepped(weights, words, drawn):
    """Reckon [time, probabilities] from those after one more letter."""
    found = [Fraction(1)] + [Fraction(0)] * len(words)
    for letter in range(len(weights)):
        longer = [*drawn, letter]
        end = occurrence(words, longer)
        if end is None:
            then = goes_on(weights, words, longer)
        else:
            then = [0] + [int(number == end[1]) for number in range(len(words))]
        for at, value in enumerate(then):
            found[at] += chance_of(weights, [letter]) * value
    return found


class After(unittest.TestCase):

    def test_two_words(self):
        words = [(0, 1, 0), (0, 0, 1)]
        self.assertEqual(ask_race((1, 1), words, after(0, 1), after(0), after(1), after(0, 0)),
                         [[2, 4, 1, 2, 3, 1, 3], [2, 4, 1, 1, 3, 2, 3], [2, 6, 1, 1, 3, 2, 3],
                          [2, 2, 1, 0, 1, 1, 1]])

    def test_one_word(self):
        words = [(0, 0, 0)]
        self.assertEqual(ask_race((1, 1), words, after(), after(0), after(0, 0), after(0, 0, 1)),
                         [[1, 14, 1, 1, 1], [1, 12, 1, 1, 1], [1, 8, 1, 1, 1], [1, 14, 1, 1, 1]])

    def test_words_of_one_letter(self):
        self.assertEqual(ask_race((1, 2, 3), [(0,), (2,)], after(), after(1), after(*[1] * 20)),
                         [[2, 3, 2, 1, 4, 3, 4]] * 3)

    def test_a_word_that_cannot_win_any_more(self):
        # After 0 0 only the letter 1 ends the race, and always with word 1.
        self.assertEqual(ask_race((1, 3), [(1, 0), (0, 0, 1)], after(0, 0)), [[2, 4, 3, 0, 1, 1, 1]])

    def test_no_letters_are_the_same_as_first(self):
        for weights, words in some_races(21, 300):
            given = ask_race(weights, words, after(), first())
            self.assertEqual(given[0], given[1])

    def test_all_letters_up_to_5_against_overlaps(self):
        for weights, words in [((1, 1), [(0, 1, 0), (0, 0, 1)]), ((2, 3), FOUR), ((10, 1), [(0, 1, 1, 0, 1)]),
                               ((1, 2, 3), [(0, 1, 0, 1), (2, 2), (1, 0, 0, 0, 0), (0, 2)])]:
            for length in range(6 if len(weights) == 2 else 5):
                for drawn in all_words(len(weights), length):
                    if occurrence(words, drawn) is None:
                        self.assertEqual(goes_on(weights, words, drawn),
                                         expected_after(weights, drawn, *words), (weights, words, drawn))

    def test_many_races_and_up_to_20_letters_against_overlaps(self):
        lengths = set()
        for seed, (weights, words) in enumerate(some_races(22, 1000)):
            drawn = some_letters(seed, words, len(weights), seed % 21)
            lengths.add(len(drawn))
            self.assertEqual(goes_on(weights, words, drawn), expected_after(weights, drawn, *words),
                             (weights, words, drawn))
        self.assertEqual(lengths, set(range(21)))

    def test_letter_by_letter(self):
        for seed, (weights, words) in enumerate(some_races(23, 250)):
            drawn = some_letters(seed, words, len(weights), seed % 20)
            for count in range(len(drawn) + 1):
                self.assertEqual(goes_on(weights, words, drawn[:count]), stepped(weights, words, drawn[:count]),
                                 (weights, words, drawn[:count]))

    def test_only_the_last_letters_matter(self):
        for seed, (weights, words) in enumerate(some_races(24, 400)):
            drawn = some_letters(seed, words, len(weights), 20)
            enough = max(len(letters) for letters in words) - 1
            plain = ask_race(weights, words, after(*drawn))
            for start in range(len(drawn) - enough + 1):
                self.assertEqual(ask_race(weights, words, after(*drawn[start:])), plain, (weights, words, drawn))

    def test_fractions_are_in_lowest_terms(self):
        for seed, (weights, words) in enumerate(some_races(25, 300)):
            answer = ask_race(weights, words, after(*some_letters(seed, words, len(weights), 8)))[0]
            self.assertEqual(len(answer), 3 + 2 * len(words))
            for at in range(1, len(answer), 2):
                fraction = Fraction(answer[at], answer[at + 1])
                self.assertEqual(answer[at:at + 2], [fraction.numerator, fraction.denominator])

    def test_the_probabilities_add_up_to_1(self):
        for seed, (weights, words) in enumerate(some_races(26, 300)):
            found = goes_on(weights, words, some_letters(seed, words, len(weights), 6))
            self.assertEqual(sum(found[1:]), 1)

    def test_exchanged_letters(self):
        for seed, (weights, words) in enumerate(some_races(27, 100)):
            drawn = some_letters(seed, words, len(weights), 7)
            ended = [*drawn, *words[-1]]
            plain = ask_race(weights, words, after(*drawn), after(*ended))
            for other, (last, end, *exchanged) in exchanges(weights, drawn, ended, *words):
                self.assertEqual(ask_race(other, exchanged, after(*last), after(*end)), plain)

    def test_multiplied_weights(self):
        for weights, words in [((1, 2), [(0, 1, 0), (0, 0, 1)]), ((2, 1, 2), [(0, 1), (2, 2), (1, 0, 0)])]:
            calls = [after(*drawn) for length in range(4) for drawn in all_words(len(weights), length)][:30]
            plain = ask_race(weights, words, *calls)
            for factor in range(2, 6):
                self.assertEqual(ask_race([factor * one for one in weights], words, *calls), plain)

    def test_a_further_word_makes_nothing_greater(self):
        for seed, (weights, words) in enumerate(some_races(28, 300)):
            if len(words) > 1:
                drawn = some_letters(seed, words, len(weights), 5)
                more = goes_on(weights, words[:-1], drawn)
                less = goes_on(weights, words, drawn)
                self.assertTrue(all(now <= then for now, then in zip(less, more)), (weights, words, drawn))

    def test_changes_nothing(self):
        asked = [first(), wait(0, 1), after(1), word(0, 1, 0), first()]
        plain = ask_race((2, 3), FOUR[:2], *asked)
        for drawn in ([], [0, 0], [1, 1, 1], [0] * 20, [1, 0], [0, 0, 1, 0], [2], [0] * 21):
            self.assertEqual(ask_race((2, 3), FOUR[:2], after(*drawn), *asked)[1:], plain, drawn)
        self.assertEqual(ask(after(0, 1), after(2), word(0, 1), after(1), first()),
                         [[-11], [-1], [0], [1, 4, 1, 1, 1], [1, 4, 1, 1, 1]])


class AfterRefuses(unittest.TestCase):

    def test_more_than_20_letters(self):
        for count in (21, 22, 23, 24):
            for drawn in ([0] * count, [1] * count, [0, 1] * 12):
                drawn = drawn[:count]
                self.assertEqual(ask(after(*drawn)), [[-1]])
                self.assertEqual(ask_race((2, 3), [(1, 1), (0, 0, 1)], after(*drawn)), [[-1]])
        self.assertEqual(ask_race((1, 1), [(1, 1)], after(*[0] * 20), after(*[0] * 21)), [[1, 6, 1, 1, 1], [-1]])

    def test_letters_that_do_not_exist(self):
        for drawn in ([2], [0, 2], [2, 0], [0, 3, 1], [4294967295], [0] * 19 + [2], [0, 0, 0, 4294967295]):
            self.assertEqual(ask(after(*drawn)), [[-1]], drawn)
            self.assertEqual(ask_race((2, 3), [(1, 1)], after(*drawn)), [[-1]], drawn)
        self.assertEqual(ask_race((1, 1, 1), [(0,)], after(2), after(3)), [[1, 3, 1, 1, 1], [-1]])
        self.assertEqual(ask_last(begin(1, 1, 1), word(0, 2), begin(1, 1), after(2)), [-1])

    def test_no_words(self):
        for drawn in ([], [0], [1], [0, 1, 1], [1] * 20):
            self.assertEqual(ask(after(*drawn)), [[-11]], drawn)
            self.assertEqual(ask_last(word(0), begin(3, 4), after(*drawn)), [-11], drawn)

    def test_what_is_outside_the_limits_comes_before_a_word_that_occurs(self):
        self.assertEqual(ask_race((1, 1), [(0,)], after(0, 2), after(2, 0), after(*[0] * 21), after(0)),
                         [[-1], [-1], [-1], [-7, 0, 1]])

    def test_a_word_that_occurs_at_once(self):
        self.assertEqual(ask_race((1, 1, 1), [(1, 1), (0,)], after(0), after(0, 1, 1), after(1, 1, 0)),
                         [[-7, 1, 1], [-7, 1, 1], [-7, 0, 2]])
        self.assertEqual(ask_race((1, 1), [(0, 1, 1, 0, 1)], after(0, 1, 1, 0, 1)), [[-7, 0, 5]])
        self.assertEqual(ask_race((1, 1), [(0, 1)], after(0, 1, 0, 0)), [[-7, 0, 2]])

    def test_a_word_that_occurs_at_the_end(self):
        self.assertEqual(ask_race((1, 1), FOUR, after(0, 1, 1, 1, 1)), [[-7, 2, 5]])
        self.assertEqual(ask_race((1, 1), FOUR, after(0, 1, 1, 1, 0)), [[-7, 1, 5]])
        self.assertEqual(ask_race((1, 1), [(0, 0), (1, 1)], after(*[0, 1] * 9, 0, 0)), [[-7, 0, 20]])
        self.assertEqual(ask_race((1, 1), [(0, 0), (1,)], after(*[0], 1)), [[-7, 1, 2]])

    def test_a_word_that_occurs_in_the_midst(self):
        self.assertEqual(ask_race((1, 1), [(0, 1, 0), (0, 0, 1)], after(1, 0, 0, 1, 0)), [[-7, 1, 4]])
        self.assertEqual(ask_race((1, 2, 3), [(0, 0), (2, 1)], after(1, 2, 0, 2, 1, 0, 1)), [[-7, 1, 5]])

    def test_the_word_that_occurs_first_of_several(self):
        words = [(1, 1, 1, 1), (0, 0, 0), (0, 1), (1, 0)]
        self.assertEqual(ask_race((1, 1), words, after(1, 1, 1, 1, 0), after(0, 0, 0, 1, 0), after(0, 1, 0, 0, 0),
                                  after(1, 1, 0, 0, 0, 1, 1, 1, 1)),
                         [[-7, 0, 4], [-7, 1, 3], [-7, 2, 2], [-7, 3, 3]])
        # The longer word begins first, but the shorter one ends first.
        self.assertEqual(ask_race((1, 1), [(0, 0, 1, 0, 1), (1, 0, 0)], after(1, 0, 0, 1, 0, 1)), [[-7, 1, 3]])
        self.assertEqual(ask_race((1, 1, 1), [(0, 1, 2, 2), (2, 0)], after(2, 0, 1, 2, 2)), [[-7, 1, 2]])

    def test_a_word_that_occurs_twice(self):
        self.assertEqual(ask_race((1, 1), [(1, 1), (0, 1, 0)], after(0, 0, 1, 0, 1, 0, 1, 1)), [[-7, 1, 4]])

    def test_all_letters_up_to_6_against_a_search(self):
        for weights, words in [((1, 1), [(0, 1, 0), (0, 0, 1)]), ((2, 3), FOUR), ((1, 1), [(1, 0, 1, 0, 1)]),
                               ((1, 2, 3), [(0, 1, 0, 1), (2, 2), (1, 0, 0), (0, 2)])]:
            for length in range(7 if len(weights) == 2 else 6):
                for drawn in all_words(len(weights), length):
                    answer = ask_race(weights, words, after(*drawn))[0]
                    end = occurrence(words, drawn)
                    if end is None:
                        self.assertEqual((answer[0], len(answer)), (len(words), 3 + 2 * len(words)))
                    else:
                        self.assertEqual(answer, [-7, end[1], end[0]])

    def test_many_races_against_a_search(self):
        choose = random.Random(29)
        for weights, words in some_races(30, 500):
            drawn = [choose.randrange(len(weights)) for place in range(choose.randrange(21))]
            end = occurrence(words, drawn)
            answer = ask_race(weights, words, after(*drawn))[0]
            self.assertEqual(answer[:3] if answer[0] < 0 else None, end and [-7, end[1], end[0]])

    def test_only_words_of_the_race_occur(self):
        self.assertEqual(ask_last(word(0, 1), word(1), word(2), after(1, 1)), [1, 4, 1, 1, 1])
