"""The interface: how calls are handed in and answers given back, and the document's examples."""

import unittest

from asking import ask, begin, first, wait, word
from racingwords.drawing import UnknownCall, answers


class Examples(unittest.TestCase):

    def test_waiting(self):
        self.assertEqual(answers([0, 2, 1, 1, 2, 3, 0, 0, 0, 2, 3, 0, 1, 0]),
                         [1, 2, 3, 0, 14, 1, 3, 0, 10, 1])

    def test_racing(self):
        self.assertEqual(answers([1, 3, 0, 1, 0, 1, 3, 0, 0, 1, 3]),
                         [1, 0, 1, 1, 7, 2, 6, 1, 1, 3, 2, 3])

    def test_after_a_number_of_letters(self):
        self.assertEqual(answers([1, 3, 0, 1, 0, 1, 3, 0, 0, 1, 4, 4]),
                         [1, 0, 1, 1, 7, 2, 9, 16, 3, 16, 1, 4])

    def test_after_some_letters(self):
        self.assertEqual(answers([1, 3, 0, 1, 0, 1, 3, 0, 0, 1, 5, 2, 0, 1, 5, 5, 1, 0, 0, 1, 0]),
                         [1, 0, 1, 1, 7, 2, 4, 1, 2, 3, 1, 3, 3, -7, 1, 4])

    def test_replying_and_rings(self):
        self.assertEqual(answers([6, 3, 0, 0, 0, 7, 2, 7, 3]),
                         [6, 0, 7, 8, 1, 0, 0, 1, -11, 13, 4, 0, 0, 1, 0, 1, 1, 1, 1, 0, 1, 0, 0])

    def test_replying_and_rings_with_other_weights(self):
        self.assertEqual(answers([0, 2, 1, 2, 6, 2, 0, 1, 7, 3]),
                         [1, 3, 5, 0, 2, 3, 1, 0, 10, 3, 0, 1, 1, 1, 1, 0, 1, 0, 1])

    def test_refusing(self):
        self.assertEqual(answers([1, 3, 0, 1, 0, 1, 2, 1, 0, 1, 2, 0, 2]), [1, 0, 2, -6, 0, 1, -1])


class Calls(unittest.TestCase):

    def test_each_answer_has_its_count_ahead(self):
        self.assertEqual(answers([3]), [1, -11])
        self.assertEqual(answers([0, 0]), [1, -1])
        self.assertEqual(answers([0, 3, 1, 2, 3]), [1, 6])
        self.assertEqual(answers([1, 1, 0, 1, 1, 0]), [1, 0, 2, -6, 0])
        self.assertEqual(answers([2, 0, 2, 1, 0]), [1, -1, 3, 0, 2, 1])
        self.assertEqual(answers([4, 0, 4, 31]), [1, -11, 1, -1])
        self.assertEqual(answers([1, 1, 0, 5, 0, 5, 1, 1, 5, 1, 0]),
                         [1, 0, 5, 1, 2, 1, 1, 1, 5, 1, 2, 1, 1, 1, 3, -7, 0, 1])
        self.assertEqual(answers([6, 0, 6, 1, 1, 7, 0, 7, 1]), [1, -1, 4, 0, 1, 2, 0, 1, -1, 1, -11])

    def test_refused_lists_are_gone_over_whole(self):
        # The numbers of a refused list look like calls; none of them may be taken for one.
        self.assertEqual(answers([0, 8, 3, 3, 3, 3, 3, 3, 3, 3, 3]), [1, -1, 1, -11])
        self.assertEqual(answers([1, 8, 3, 3, 3, 3, 3, 3, 3, 3, 1, 1, 0]), [1, -1, 1, 0])
        self.assertEqual(answers([2, 6, 0, 2, 1, 1, 1, 0, 1, 0, 3]), [1, -1, 1, -1, 1, -11])
        self.assertEqual(answers([1, 0, 2, 0, 0, 0, 3]), [1, -1, 1, -1, 1, -1, 1, -11])
        self.assertEqual(answers([5, 24] + [3] * 24 + [6, 8] + [7] * 8 + [5, 0, 6, 0, 3]),
                         [1, -1, 1, -1, 1, -11, 1, -1, 1, -11])

    def test_starts_with_two_letters_of_weight_1_and_no_words(self):
        self.assertEqual(ask(first(), wait(0), wait(1), wait(2), word(2)),
                         [[-11], [0, 2, 1], [0, 2, 1], [-1], [-1]])
        self.assertEqual(ask(word(0), word(1), first()), [[0], [1], [2, 1, 1, 1, 2, 1, 2]])

    def test_begin_may_be_called_again(self):
        self.assertEqual(ask(begin(1, 2), wait(0), begin(1, 1, 2), wait(0), begin(4, 4), wait(0)),
                         [[3], [0, 3, 1], [4], [0, 4, 1], [8], [0, 2, 1]])

    def test_nothing_is_kept_from_one_list_to_the_next(self):
        asked = first() + wait(0) + word(2)
        plain = answers(asked)
        answers(begin(1, 2, 3) + word(0) + word(1, 2) + first())
        self.assertEqual(answers(asked), plain)
        self.assertEqual(plain, [1, -11, 3, 0, 2, 1, 1, -1])

    def test_the_list_handed_in_stays_as_it_is(self):
        calls = begin(1, 2, 3) + word(0, 1) + word(0) + word() + wait(2, 2) + begin(0) + word(2) + first()
        before = list(calls)
        answers(calls)
        self.assertEqual(calls, before)

    def test_what_is_given_back_is_a_new_list(self):
        calls = word(0, 1) + first()
        given = answers(calls)
        plain = list(given)
        given.clear()
        self.assertEqual(answers(calls), plain)

    def test_forty_calls(self):
        calls = [begin(7, 9, 10), word(0, 1, 2, 0, 1), word(1, 1, 2, 2, 0), word(2, 0, 0, 1, 0),
                 word(2, 2, 1, 0, 2)] + [first()] * 35
        given = ask(*calls)
        self.assertEqual(given[:5], [[26], [0], [1], [2], [3]])
        self.assertEqual(given[5:], [given[5]] * 35)

    def test_a_call_that_the_program_does_not_know(self):
        with self.assertRaises(UnknownCall):
            answers([8])
