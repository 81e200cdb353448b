"""Promise 5: wait."""

import unittest

from calls import BEGIN, NO_WORD, REFUSED, ask, ask_last, letters, line, look_behind, rows_up_to, wait, word
from wordwait.desk import answers


def told_wait(q, row):
    return ask_last(letters(q), word(0, row), wait(0))


def longest_beginning(row, seen):
    """How many of the last letters seen are at the most a beginning of the word."""
    return max(k for k in range(len(row) + 1) if seen[len(seen) - k:] == row[:k])


def mean_wait(q, row):
    """How many letters come on the average till the word has come, by how much of it has come already.

    From n letters of the word on, the wait is steps[n] less than the whole wait: each letter costs one step and
    leads to some beginning of the word, so the wait from one beginning tells that from the next.
    """
    steps = [0]
    for n in range(len(row)):
        # wait(n) = 1 + the mean of wait(where each letter leads); wait(m) is the whole wait less steps[m].
        back = [longest_beginning(row, row[:n] + [letter]) for letter in range(q) if letter != row[n]]
        steps.append(q * (steps[n] + 1) - sum(steps[m] for m in back))
    return steps[len(row)]


class WaitTest(unittest.TestCase):
    def test_answers_0_and_the_number(self):
        self.assertEqual(answers(line(BEGIN, word(0, [1, 0, 1]), wait(0))), [1, 0, 1, 0, 2, 0, 10])

    def test_words_that_overlap_themselves(self):
        for q, row, number in ((2, [1, 1], 6), (2, [1, 0, 1], 10), (2, [0, 0, 0], 14), (2, [0, 1, 0, 1], 20),
                               (3, [2, 2], 12), (3, [1, 0, 2, 1], 84), (4, [3, 0, 3, 0], 272), (6, [5, 5, 5], 258)):
            with self.subTest(q=q, row=row):
                self.assertEqual(told_wait(q, row), [0, number])

    def test_words_that_do_not(self):
        for q, row, number in ((2, [1, 0], 4), (2, [0, 0, 1], 8), (2, [0, 1, 1, 1], 16), (3, [0, 1, 2], 27),
                               (5, [4, 0], 25), (6, [0, 1, 2, 3, 4, 5], 46656)):
            with self.subTest(q=q, row=row):
                self.assertEqual(told_wait(q, row), [0, number])

    def test_a_word_of_1_letter_takes_q(self):
        for q in range(2, 7):
            for letter in range(q):
                with self.subTest(q=q, letter=letter):
                    self.assertEqual(told_wait(q, [letter]), [0, q])

    def test_words_of_16_letters(self):
        for q in range(2, 7):
            with self.subTest(q=q):
                self.assertEqual(told_wait(q, [q - 1] * 16), [0, sum(q ** k for k in range(1, 17))])
                self.assertEqual(told_wait(q, [0] * 15 + [q - 1]), [0, q ** 16])
                self.assertEqual(told_wait(q, [0] + [1] * 14 + [0]), [0, q ** 16 + q])

    def test_the_largest_number(self):
        for letter in range(6):
            with self.subTest(letter=letter):
                self.assertEqual(told_wait(6, [letter] * 16), [0, 3385331888946])

    def test_each_of_the_four(self):
        rows = [[1], [1, 1], [1, 0, 1], [1, 0]]
        told = ask(*[word(i, rows[i]) for i in range(4)], *[wait(i) for i in range(4)])
        self.assertEqual(told[4:], [[0, 2], [0, 6], [0, 10], [0, 4]])

    def test_is_how_long_the_word_is_waited_for(self):
        for q, most in ((2, 6), (3, 4), (4, 3)):
            for row in rows_up_to(q, most):
                with self.subTest(q=q, row=row):
                    self.assertEqual(told_wait(q, row), [0, mean_wait(q, row)])

    def test_i_outside_0_to_3_is_refused(self):
        for i in NO_WORD:
            with self.subTest(i=i):
                self.assertEqual(answers(line(BEGIN, wait(i))), [1, 0] + [1] + REFUSED)

    def test_changes_nothing(self):
        for i in (0, 3) + NO_WORD:
            with self.subTest(i=i):
                self.assertEqual(look_behind(wait(i)), look_behind())


if __name__ == "__main__":
    unittest.main()
