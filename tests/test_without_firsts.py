"""Promises 6 and 7: without and firsts."""

import unittest

from calls import (BEGIN, NO_LENGTH, NO_WORD, REFUSED, ask, ask_last, firsts, is_at_end_for_the_first_time, letters,
                   line, look_behind, overlap_list, rows_of, rows_up_to, stands_in, wait, without, word)
from wordwait.desk import answers

OVERLAPPING = [[1, 1], [1, 0, 1], [0, 0, 0], [0, 1, 0, 1], [1, 0, 0, 1, 0, 0, 1]]
NOT_OVERLAPPING = [[1, 0], [0, 0, 1], [0, 1, 1, 1], [1, 0, 0, 1, 0, 0, 0]]
LONG = [[0, 1] * 8, [0, 1, 1] * 4, [1, 0, 0, 1, 0, 0, 1], [1] * 9, [0] * 7 + [1], [1] * 16, [0] * 15 + [1]]
# Up to how many letters words are gone through, and up to how many letters rows are, for each q.
GONE_THROUGH = ((2, 4, 8), (3, 3, 5), (4, 2, 4), (5, 2, 3), (6, 2, 3))


def numbers_told(call, q, row, lengths):
    """What the call, without or firsts, tells of this word for each n, behind the 0."""
    told = ask(letters(q), word(0, row), *[call(0, n) for n in lengths])[2:]
    if any(len(answer) != 2 or answer[0] != 0 for answer in told):
        raise AssertionError(f"not each a 0 and a number: {told}")
    return [answer[1] for answer in told]


def firsts_by_ends(q, row, most):
    """Firsts for each n up to most, from how many rows have the word at their end, be it for the first time or not.

    There are q to the power n - size of these, and each has the word for the first time somewhere: so far ahead that
    the two don't touch, or over an overlap, or at the end.
    """
    size = len(row)
    counts = [0] * size
    for n in range(size, most + 1):
        apart = sum(counts[m] * q ** (n - size - m) for m in range(n - size + 1))
        touching = sum(counts[n - size + k] for k in overlap_list(row, row) if k < size)
        counts.append(q ** (n - size) - apart - touching)
    return counts[:most + 1]


def without_by_ends(q, row, most):
    counts = firsts_by_ends(q, row, most)
    return [q ** n - sum(counts[m] * q ** (n - m) for m in range(n + 1)) for n in range(most + 1)]


class WithoutTest(unittest.TestCase):
    def test_answers_0_and_the_number(self):
        self.assertEqual(answers(line(BEGIN, word(0, [1, 1]), without(0, 3))), [1, 0, 1, 0, 2, 0, 5])

    def test_words_that_overlap_themselves_or_not(self):
        self.assertEqual(numbers_told(without, 2, [1, 1], range(8)), [1, 2, 3, 5, 8, 13, 21, 34])
        self.assertEqual(numbers_told(without, 2, [1, 0], range(8)), [1, 2, 3, 4, 5, 6, 7, 8])
        self.assertEqual(numbers_told(without, 2, [1, 0, 1], range(7)), [1, 2, 4, 7, 12, 21, 37])
        self.assertEqual(numbers_told(without, 3, [2, 0], range(6)), [1, 3, 8, 21, 55, 144])

    def test_n_0_is_the_empty_word_alone(self):
        for q in range(2, 7):
            for row in ([0], [q - 1], [0, 1], [1] * 16):
                with self.subTest(q=q, row=row):
                    self.assertEqual(numbers_told(without, q, row, [0]), [1])

    def test_n_1(self):
        for q in range(2, 7):
            with self.subTest(q=q):
                self.assertEqual(numbers_told(without, q, [q - 1], [1]), [q - 1])
                self.assertEqual(numbers_told(without, q, [q - 1, q - 1], [1]), [q])

    def test_one_below_at_and_above_the_words_length(self):
        for q in range(2, 7):
            for size in range(2, 17):
                with self.subTest(q=q, size=size):
                    lengths = [size - 1, size, size + 1]
                    none_or_one = [q ** (size - 1), q ** size - 1]
                    self.assertEqual(numbers_told(without, q, [0] * (size - 1) + [1], lengths),
                                     none_or_one + [q ** (size + 1) - 2 * q])
                    self.assertEqual(numbers_told(without, q, [1] * size, lengths),
                                     none_or_one + [q ** (size + 1) - 2 * q + 1])

    def test_the_largest_numbers(self):
        self.assertEqual(numbers_told(without, 6, [5] * 16, [20]), [3656158440057360])
        self.assertEqual(numbers_told(without, 6, [5] * 15 + [4], [20]), [3656158440056496])
        self.assertEqual(numbers_told(without, 6, [0, 1], [20]), [2108646576008245])
        self.assertEqual(numbers_told(without, 6, [3], [20]), [95367431640625])

    def test_each_of_the_four(self):
        told = ask(word(0, [1]), word(1, [1, 1]), word(2, [1, 0]), word(3, [1, 1, 1]),
                   *[without(i, 4) for i in range(4)])
        self.assertEqual(told[4:], [[0, 1], [0, 8], [0, 5], [0, 13]])


class FirstsTest(unittest.TestCase):
    def test_answers_0_and_the_number(self):
        self.assertEqual(answers(line(BEGIN, word(0, [1, 1]), firsts(0, 5))), [1, 0, 1, 0, 2, 0, 3])

    def test_words_that_overlap_themselves_or_not(self):
        self.assertEqual(numbers_told(firsts, 2, [1, 1], range(8)), [0, 0, 1, 1, 2, 3, 5, 8])
        self.assertEqual(numbers_told(firsts, 2, [1, 0], range(8)), [0, 0, 1, 2, 3, 4, 5, 6])
        self.assertEqual(numbers_told(firsts, 2, [1, 0, 1], range(7)), [0, 0, 0, 1, 2, 3, 5])
        self.assertEqual(numbers_told(firsts, 3, [2, 0], range(6)), [0, 0, 1, 3, 8, 21])

    def test_n_0_has_nothing_at_its_end(self):
        for q in range(2, 7):
            for row in ([0], [q - 1], [0, 1], [1] * 16):
                with self.subTest(q=q, row=row):
                    self.assertEqual(numbers_told(firsts, q, row, [0]), [0])

    def test_n_1(self):
        for q in range(2, 7):
            with self.subTest(q=q):
                self.assertEqual(numbers_told(firsts, q, [q - 1], [1]), [1])
                self.assertEqual(numbers_told(firsts, q, [q - 1, q - 1], [1]), [0])

    def test_one_below_at_and_above_the_words_length(self):
        for q in range(2, 7):
            for size in range(2, 17):
                with self.subTest(q=q, size=size):
                    lengths = [size - 1, size, size + 1]
                    self.assertEqual(numbers_told(firsts, q, [0] * (size - 1) + [1], lengths), [0, 1, q])
                    self.assertEqual(numbers_told(firsts, q, [1] * size, lengths), [0, 1, q - 1])

    def test_the_largest_numbers(self):
        self.assertEqual(numbers_told(firsts, 6, [0, 1], [20]), [62072759630771])
        self.assertEqual(numbers_told(firsts, 6, [3, 3], [20]), [56903517578125])
        self.assertEqual(numbers_told(firsts, 6, [3], [20]), [19073486328125])
        self.assertEqual(numbers_told(firsts, 6, [5] * 16, [20]), [1080])
        self.assertEqual(numbers_told(firsts, 6, [5] * 15 + [4], [20]), [1296])

    def test_each_of_the_four(self):
        told = ask(word(0, [1]), word(1, [1, 1]), word(2, [1, 0]), word(3, [1, 1, 1]),
                   *[firsts(i, 6) for i in range(4)])
        self.assertEqual(told[4:], [[0, 1], [0, 5], [0, 5], [0, 4]])


class WithoutAndFirstsTest(unittest.TestCase):
    def test_every_short_word_against_all_rows(self):
        for q, longest, most in GONE_THROUGH:
            rows = [rows_of(q, n) for n in range(most + 1)]
            for row in rows_up_to(q, longest):
                with self.subTest(q=q, row=row):
                    self.assertEqual(numbers_told(without, q, row, range(most + 1)),
                                     [sum(not stands_in(row, other) for other in some) for some in rows])
                    self.assertEqual(numbers_told(firsts, q, row, range(most + 1)),
                                     [sum(is_at_end_for_the_first_time(row, other) for other in some) for some in rows])

    def test_20_letters_against_all_rows(self):
        rows = [format(k, "020b") for k in range(2 ** 20)]
        for row in OVERLAPPING + NOT_OVERLAPPING + [[1], [1] * 16, [0] * 15 + [1]]:
            with self.subTest(row=row):
                text = "".join(str(letter) for letter in row)
                places = [other.find(text) for other in rows]
                self.assertEqual(numbers_told(without, 2, row, [20]), [places.count(-1)])
                self.assertEqual(numbers_told(firsts, 2, row, [20]), [places.count(20 - len(text))])

    def test_every_n_with_every_q(self):
        for q, longest in ((2, 5), (3, 3), (4, 2), (5, 2), (6, 2)):
            for row in rows_up_to(q, longest) + LONG + [[q - 1] * 16]:
                with self.subTest(q=q, row=row):
                    self.assertEqual(numbers_told(without, q, row, range(21)), without_by_ends(q, row, 20))
                    self.assertEqual(numbers_told(firsts, q, row, range(21)), firsts_by_ends(q, row, 20))

    def test_behind_begin_each_word_is_the_letter_0(self):
        for i in range(4):
            with self.subTest(i=i):
                self.assertEqual(ask(without(i, 20), firsts(i, 20)), [[0, 1], [0, 1]])
                self.assertEqual(ask(letters(3), without(i, 4), firsts(i, 4))[1:], [[0, 16], [0, 8]])

    def test_i_outside_0_to_3_is_refused(self):
        for i in NO_WORD:
            for n in (0, 20) + NO_LENGTH:
                with self.subTest(i=i, n=n):
                    self.assertEqual(ask_last(without(i, n)), REFUSED)
                    self.assertEqual(ask_last(firsts(i, n)), REFUSED)

    def test_n_outside_0_to_20_is_refused(self):
        for n in NO_LENGTH:
            for i in range(4):
                with self.subTest(i=i, n=n):
                    self.assertEqual(ask_last(without(i, n)), REFUSED)
                    self.assertEqual(ask_last(firsts(i, n)), REFUSED)

    def test_change_nothing(self):
        for i, n in ((0, 20), (3, 0), (-1, 3), (4, 3), (0, -1), (1, 21)):
            with self.subTest(i=i, n=n):
                self.assertEqual(look_behind(without(i, n)), look_behind())
                self.assertEqual(look_behind(firsts(i, n)), look_behind())

    def test_tell_the_same_again(self):
        told = ask(word(1, [1, 1]), without(1, 9), firsts(1, 9), wait(1), without(1, 9), firsts(1, 9))
        self.assertEqual(told[1:], [[0, 89], [0, 21], [0, 6], [0, 89], [0, 21]])


if __name__ == "__main__":
    unittest.main()
