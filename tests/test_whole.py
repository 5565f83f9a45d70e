"""The whole program: long lists of calls of all kinds, errors among them, against another reckoning."""

import random
import time
import unittest
from fractions import Fraction
from functools import lru_cache
from itertools import permutations

from asking import (after, all_words, ask, begin, by, expected, expected_after, expected_against, expected_by,
                    first, lies_in, occurrence, reply, ring, wait, word)
from racingwords.drawing import answers

SOME_SECONDS = 10
FOUR = [word(0, 1, 2, 0, 1), word(1, 1, 2, 2, 0), word(2, 0, 0, 1, 0), word(2, 2, 1, 0, 2)]
MOST_AFTER = after(*[0, 1, 2, 2, 0] * 4)


@lru_cache(maxsize=None)
def best_reply(weights, letters):
    others = [other for other in all_words(len(weights), len(letters)) if other != letters]
    chances = [expected_against(weights, other, letters) for other in others]
    return [0, *in_numbers([max(chances)]), *others[chances.index(max(chances))]]


@lru_cache(maxsize=None)
def shortest_ring(weights, length):
    words = all_words(len(weights), length)
    beats = {(v, w) for v, w in permutations(words, 2) if 2 * expected_against(weights, v, w) > 1}
    for size in (3, 4):
        for circle in permutations(words, size):
            if circle[0] == min(circle) and all(pair in beats for pair in zip(circle, circle[1:] + circle[:1])):
                return [size] + [letter for letters in circle for letter in letters]
    return [-11]


def in_numbers(values):
    return [number for value in values for number in (Fraction(value).numerator, Fraction(value).denominator)]


class Model:
    """What the document says of each call, reckoned from overlaps."""

    def __init__(self):
        self.weights = (1, 1)
        self.words = []

    def are_letters(self, letters, least, most):
        return least <= len(letters) <= most and all(letter < len(self.weights) for letter in letters)

    def answer(self, call):
        kind, numbers = call[0], tuple(call[2:])
        if kind == 0:
            if len(numbers) not in (2, 3) or min(numbers) < 1 or max(numbers) > 10:
                return [-1]
            self.weights, self.words = numbers, []
            return [sum(numbers)]
        if kind in (1, 2, 6) and not self.are_letters(numbers, 1, 5):
            return [-1]
        if kind == 1:
            return self.word(numbers)
        if kind == 2:
            return [0, *in_numbers(expected(self.weights, numbers)[:1])]
        if kind == 6:
            return best_reply(self.weights, numbers)
        if kind == 7:
            return shortest_ring(self.weights, call[1]) if 1 <= call[1] <= 3 else [-1]
        return self.standing(kind, call, numbers)

    def word(self, letters):
        for number, other in enumerate(self.words):
            if lies_in(other, letters) or lies_in(letters, other):
                return [-6, number]
        if len(self.words) == 4:
            return [-5]
        self.words.append(letters)
        return [len(self.words) - 1]

    def standing(self, kind, call, drawn):
        if kind == 4 and call[1] > 30 or kind == 5 and not self.are_letters(drawn, 0, 20):
            return [-1]
        if not self.words:
            return [-11]
        if kind == 3:
            return [len(self.words), *in_numbers(expected(self.weights, *self.words))]
        if kind == 4:
            return [len(self.words), *in_numbers(expected_by(self.weights, call[1], *self.words)[-1])]
        end = occurrence(self.words, drawn)
        if end is not None:
            return [-7, end[1], end[0]]
        return [len(self.words), *in_numbers(expected_after(self.weights, drawn, *self.words))]


def some_call(choose, count):
    """Return a call of any kind for so many letters, most often one that is not refused."""

    def letters(least, most):
        letter_count = count if choose.random() < 0.97 else count + 1
        return [choose.randrange(letter_count) for place in range(choose.randint(least, most))]

    kind = choose.choice("wwwwwiifffbbbaaaaa")
    if choose.random() < 0.04:
        return begin(*[choose.randint(0, 11) for letter in range(choose.randint(1, 4))])
    if choose.random() < 0.03:
        return begin(*[choose.randint(1, 10) for letter in range(count)])
    if kind == "w":
        return word(*letters(2, 5)) if choose.random() < 0.9 else word(*letters(0, 8))
    if kind == "i":
        return wait(*letters(1, 5)) if choose.random() < 0.9 else wait(*letters(0, 8))
    if kind == "f":
        return first()
    if kind == "b":
        return by(choose.randint(0, 32))
    return after(*letters(0, choose.choice((4, 24))))


def some_calls(seed):
    """Return 40 calls, the same ones each time, 6 of them reply or ring."""
    choose = random.Random(seed)
    count = choose.choice((2, 3))
    calls = [some_call(choose, count) for number in range(33)]
    calls.insert(choose.randrange(3), begin(*[choose.randint(1, 4) for letter in range(count)]))
    for number in range(6):
        dear = reply(*[choose.randrange(2) for place in range(choose.randint(0, 5))])
        if choose.random() < 0.4:
            dear = ring(choose.randint(0, 4 if count == 2 else 2))
        calls.insert(choose.randrange(len(calls)), dear)
    return calls


class Whole(unittest.TestCase):

    def test_many_lists_of_40_calls_against_another_reckoning(self):
        seen = set()
        for seed in range(60):
            calls = some_calls(seed)
            model = Model()
            for call, answer in zip(calls, ask(*calls)):
                self.assertEqual(answer, model.answer(call), (seed, call))
                seen.add((call[0], min(answer[0], 0)))
        self.assertEqual(seen, {(kind, 0) for kind in range(8)} | {(kind, -1) for kind in (0, 1, 2, 4, 5, 6, 7)}
                         | {(1, -5), (1, -6), (3, -11), (4, -11), (5, -11), (5, -7), (7, -11)})

    def test_the_dearest_lists_take_only_some_seconds(self):
        dearest = [begin(7, 9, 10)] + FOUR + [first(), by(30), MOST_AFTER, wait(2, 1, 2, 1, 2)] * 7 + [first()]
        for six in ([reply(0, 1, 2, 0, 1)] * 6, [ring(3)] * 6, [reply(2, 2, 2, 2, 2), ring(3)] * 3):
            calls = dearest[:20] + six + dearest[20:]
            self.assertEqual(len(calls), 40)
            start = time.monotonic()
            given = ask(*calls)
            self.assertLess(time.monotonic() - start, SOME_SECONDS)
            model = Model()
            self.assertEqual(given, [model.answer(call) for call in calls])

    def test_the_longest_list_there_can_be(self):
        calls = [begin(10, 9, 7)] + FOUR + [after(*[0] * 24)] * 20 + [after(*[1] * 20)] * 15
        given = ask(*calls)
        self.assertEqual(given[5:25], [[-1]] * 20)
        self.assertEqual(given[25:], [given[25]] * 15)
        self.assertEqual(given[25][0], 4)

    def test_errors_among_other_calls_change_nothing(self):
        calls = [begin(2, 3, 1), word(0, 1), word(1, 0), first(), by(7), after(2, 1), reply(0, 2), ring(2),
                 word(2, 2), first(), wait(0, 2), word(1, 1, 1), by(30), after(0), first()]
        errors = [begin(1), begin(0, 1, 1), word(), word(3), word(0), word(0, 1), wait(0, 0, 0, 0, 0, 0), wait(3),
                  by(31), after(3), after(*[0] * 21), after(2, 0, 1), reply(), reply(0, 3), ring(0), ring(4)]
        plain = ask(*calls)
        for error in errors:
            for at in range(3, len(calls) + 1):
                given = ask(*calls[:at], error, *calls[at:])
                self.assertLess(given.pop(at)[0], 0)
                self.assertEqual(given, plain, (error, at))

    def test_errors_without_words_change_nothing(self):
        errors = [first(), by(0), after(), after(1), ring(1), ring(2), begin(), word(2), by(31), reply(2)]
        for error in errors:
            self.assertLess(ask(error)[0][0], 0)
            self.assertEqual(ask(error, first(), word(0, 1), first(), wait(1))[1:],
                             [[-11], [0], [1, 4, 1, 1, 1], [0, 2, 1]])

    def test_a_full_race_stays_as_it_is(self):
        calls = [begin(7, 9, 10)] + FOUR
        asked = [first(), by(9), after(2)]
        plain = ask(*calls, *asked)[5:]
        self.assertEqual(ask(*calls, word(0, 0, 0), word(2, 1, 0), *asked)[5:], [[-5], [-6, 3]] + plain)

    def test_nothing_is_kept_from_one_list_to_the_next(self):
        lists = [[number for call in some_calls(seed) for number in call] for seed in range(100, 108)]
        plain = [answers(calls) for calls in lists]
        for number in (3, 0, 7, 7, 1):
            self.assertEqual(answers(lists[number]), plain[number])
        self.assertEqual([answers(calls) for calls in reversed(lists)], plain[::-1])
        self.assertEqual(ask(first(), by(3), after(1), wait(0), reply(0)),
                         [[-11], [-11], [-11], [0, 2, 1], [0, 1, 2, 1]])

    def test_the_list_handed_in_stays_as_it_is(self):
        for seed in range(100, 120):
            calls = [number for call in some_calls(seed) for number in call]
            before = list(calls)
            given = answers(calls)
            self.assertEqual(calls, before)
            given.clear()
            self.assertEqual(calls, before)

    def test_answers_are_plain_whole_numbers(self):
        for seed in range(120, 130):
            given = answers([number for call in some_calls(seed) for number in call])
            self.assertIs(list, given.__class__)
            self.assertEqual({number.__class__ for number in given}, {int})

    def test_no_number_is_negative_but_the_code_of_an_error(self):
        for seed in range(130, 140):
            for answer in ask(*some_calls(seed)):
                self.assertTrue(all(number >= 0 for number in answer[1:]))
                if answer[0] < 0:
                    self.assertEqual(len(answer), {-6: 2, -7: 3}.get(answer[0], 1))
