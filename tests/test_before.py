"""Promise 8: before."""

import unittest

from calls import (BEGIN, NO_LENGTH, NO_WORD, REFUSED, ask, ask_last, before, firsts, is_at_end_for_the_first_time,
                   letters, line, look_behind, overlap_list, rows_of, rows_up_to, stands_in, word)
from wordwait.desk import answers

# Pairs of which neither stands in the other: overlapping in both orders, in one, in none; of different lengths.
APART = (([1, 0, 1], [0, 1, 0]), ([0, 0, 1], [0, 1, 1]), ([0, 1], [1, 0]), ([0, 0], [1, 1]), ([0, 1, 1, 0], [1, 1, 1]),
         ([1, 1], [0, 1, 0, 0, 1, 0]), ([0, 1, 1, 1, 0], [1, 0, 0]), ([1, 0, 1, 0], [0, 1, 0, 1]))
# Pairs of which the second stands in the first: at its beginning, in its middle, at its end, at several places.
ONE_IN_THE_OTHER = (([1, 0], [1]), ([0, 1, 0], [1]), ([0, 1], [1]), ([1, 1], [1]), ([1, 0, 1], [1]),
                    ([0, 1, 1, 0], [1, 1]), ([0, 0, 1, 1], [0, 1, 1]), ([1, 0, 1, 0], [1, 0]))


def numbers_told(q, a, b, lengths):
    told = ask(letters(q), word(0, a), word(1, b), *[before(0, 1, n) for n in lengths])[3:]
    if any(len(answer) != 2 or answer[0] != 0 for answer in told):
        raise AssertionError(f"not each a 0 and a number: {told}")
    return [answer[1] for answer in told]


def firsts_told(q, a, lengths):
    told = ask(letters(q), word(0, a), *[firsts(0, n) for n in lengths])[2:]
    return [answer[1] for answer in told]


def count_by_going_through(a, b, rows):
    return sum(is_at_end_for_the_first_time(a, row) and not stands_in(b, row) for row in rows)


def count_if_first(q, a, counts_a, b, counts_b, n):
    """How many rows of n letters have a at their end and neither word ahead of it.

    Of all rows with a at their end those are left out that had a word already: so far ahead that it doesn't touch
    this one, or over an overlap.
    """
    start = n - len(a)
    if start < 0:
        return 0
    apart = sum((counts_a[m] + counts_b[m]) * q ** (start - m) for m in range(start + 1))
    over_a = sum(counts_a[start + k] for k in overlap_list(a, a) if k < len(a))
    over_b = sum(counts_b[start + k] for k in overlap_list(b, a))
    return q ** start - apart - over_a - over_b


def befores_by_ends(q, a, b, most):
    """Before for each n up to most, where neither word stands in the other."""
    counts_a, counts_b = [], []
    for n in range(most + 1):
        of_a = count_if_first(q, a, counts_a, b, counts_b, n)
        of_b = count_if_first(q, b, counts_b, a, counts_a, n)
        counts_a.append(of_a)
        counts_b.append(of_b)
    return counts_a


class BeforeTest(unittest.TestCase):
    def test_answers_0_and_the_number(self):
        calls = line(BEGIN, word(0, [1, 1]), word(1, [0, 0]), before(0, 1, 5))
        self.assertEqual(answers(calls), [1, 0, 1, 0, 1, 0, 2, 0, 1])

    def test_words_of_the_same_length(self):
        self.assertEqual(numbers_told(2, [1, 1], [0, 0], range(7)), [0, 0, 1, 1, 1, 1, 1])
        self.assertEqual(numbers_told(2, [0, 0, 1], [0, 1, 1], range(7)), [0, 0, 0, 1, 2, 4, 6])
        self.assertEqual(numbers_told(2, [0, 1, 1], [0, 0, 1], range(7)), [0, 0, 0, 1, 1, 2, 2])

    def test_the_order_of_places_is_kept(self):
        told = ask(word(0, [0, 0, 1]), word(3, [0, 1, 1]), before(0, 3, 6), before(3, 0, 6))
        self.assertEqual(told[2:], [[0, 6], [0, 2]])

    def test_every_pair_of_short_words_against_all_rows(self):
        for q, longest, most in ((2, 3, 7), (3, 2, 5), (4, 1, 4)):
            rows = [rows_of(q, n) for n in range(most + 1)]
            for a in rows_up_to(q, longest):
                for b in rows_up_to(q, longest):
                    with self.subTest(q=q, a=a, b=b):
                        self.assertEqual(numbers_told(q, a, b, range(most + 1)),
                                         [count_by_going_through(a, b, some) for some in rows])

    def test_longer_words_against_all_rows(self):
        rows = [rows_of(2, n) for n in range(11)]
        for a, b in APART + ONE_IN_THE_OTHER:
            for first, second in ((a, b), (b, a)):
                with self.subTest(first=first, second=second):
                    self.assertEqual(numbers_told(2, first, second, range(11)),
                                     [count_by_going_through(first, second, some) for some in rows])

    def test_20_letters_against_all_rows(self):
        rows = [format(k, "020b") for k in range(2 ** 20)]
        pairs = APART + ONE_IN_THE_OTHER + tuple((b, a) for a, b in ONE_IN_THE_OTHER)
        for a, b in pairs + (([0] * 4 + [1], [1] * 6), ([0] * 15 + [1], [1, 0, 1, 0, 1])):
            with self.subTest(a=a, b=b):
                text_a, text_b = ("".join(str(letter) for letter in row) for row in (a, b))
                expected = sum(row.find(text_a) == 20 - len(a) and text_b not in row for row in rows)
                self.assertEqual(numbers_told(2, a, b, [20]), [expected])

    def test_every_n_with_every_q(self):
        for q in range(2, 7):
            last = q - 1
            long = (([last] * 15 + [0], [0] + [last] * 15), ([0, last] * 8, [last, 0] * 8), ([last] * 16, [0] * 16),
                    ([0, 0, last, last] * 2, [last, last, last]), ([0] * 8, [last] + [0] * 7))
            for a, b in APART + long:
                for first, second in ((a, b), (b, a)):
                    with self.subTest(q=q, first=first, second=second):
                        self.assertEqual(numbers_told(q, first, second, range(21)),
                                         befores_by_ends(q, first, second, 20))

    def test_n_0_has_nothing_at_its_end(self):
        for a, b in APART + ONE_IN_THE_OTHER + (([1], [0]), ([0], [0])):
            with self.subTest(a=a, b=b):
                self.assertEqual(numbers_told(6, a, b, [0]), [0])
                self.assertEqual(numbers_told(6, b, a, [0]), [0])

    def test_n_1(self):
        self.assertEqual(numbers_told(3, [2], [1], [1]), [1])
        self.assertEqual(numbers_told(3, [2], [1, 2], [1]), [1])
        self.assertEqual(numbers_told(3, [1, 2], [2], [1]), [0])
        self.assertEqual(numbers_told(3, [1, 2], [0], [1]), [0])

    def test_one_below_at_and_above_the_words_length(self):
        for q in range(2, 7):
            for size in range(2, 17):
                with self.subTest(q=q, size=size):
                    lengths = [size - 1, size, size + 1]
                    row = [0] * (size - 1) + [1]
                    self.assertEqual(numbers_told(q, row, [1] * size, lengths), [0, 1, q])
                    # A letter ahead of 1 1 must not be 1, and not be 0 either, where 0 1 is the other word.
                    ahead = q - 1 if size > 2 else q - 2
                    self.assertEqual(numbers_told(q, [1] * size, row, lengths), [0, 1, ahead])
                    self.assertEqual(numbers_told(q, row, [1] + [0] * (size - 1), lengths), [0, 1, q - 1])

    def test_the_largest_numbers(self):
        # The second word comes so seldom that nearly all that have the first at their end count.
        self.assertEqual(numbers_told(6, [0, 1], [2] * 16, [20]), [62072759630771 - 94])
        self.assertEqual(numbers_told(6, [0, 1], [2] * 16, [17]), firsts_told(6, [0, 1], [17]))
        self.assertEqual(numbers_told(6, [0], [5], [20]), [4 ** 19])

    def test_the_same_word(self):
        for row in ([0], [1], [0, 1], [1, 1], [1, 0, 1], [1] * 16):
            with self.subTest(row=row):
                self.assertEqual(numbers_told(2, row, row, range(21)), [0] * 21)
                self.assertEqual(ask(word(2, row), *[before(2, 2, n) for n in range(21)])[1:], [[0, 0]] * 21)

    def test_a_word_in_which_the_other_stands_never_comes_before_it(self):
        for a, b in ONE_IN_THE_OTHER:
            with self.subTest(a=a, b=b):
                self.assertEqual(numbers_told(2, a, b, range(21)), [0] * 21)
                self.assertEqual(numbers_told(6, a, b, range(21)), [0] * 21)

    def test_a_word_that_stands_in_the_other_ahead_of_its_end_always_does(self):
        for a, b in (([1], [1, 0]), ([1], [0, 1, 0]), ([1], [1, 1]), ([1, 0], [1, 0, 1, 0]), ([1], [1, 0, 1])):
            for q in (2, 6):
                with self.subTest(q=q, a=a, b=b):
                    self.assertEqual(numbers_told(q, a, b, range(21)), firsts_told(q, a, range(21)))

    def test_a_word_that_stands_at_the_others_end(self):
        self.assertEqual(numbers_told(2, [1], [0, 1], range(21)), [0, 1] + [0] * 19)
        self.assertEqual(numbers_told(3, [1], [0, 1], range(6)), [0, 1, 1, 2, 4, 8])
        self.assertEqual(numbers_told(2, [1, 1], [0, 1, 1], range(21)), [0, 0, 1] + [0] * 18)
        self.assertEqual(numbers_told(2, [1, 1], [0, 0, 1, 1], range(7)), [0, 0, 1, 1, 1, 1, 2])

    def test_each_of_the_four_with_each(self):
        rows = [[0, 0], [0, 1], [1, 0], [1, 1, 1]]
        told = ask(*[word(i, rows[i]) for i in range(4)], *[before(i, j, 6) for i in range(4) for j in range(4)])
        self.assertEqual(told[4:], [[0, count_by_going_through(a, b, rows_of(2, 6))] for a in rows for b in rows])

    def test_i_or_j_outside_0_to_3_is_refused(self):
        for wrong in NO_WORD:
            for n in (0, 3, 20) + NO_LENGTH:
                with self.subTest(wrong=wrong, n=n):
                    self.assertEqual(ask_last(before(wrong, 0, n)), REFUSED)
                    self.assertEqual(ask_last(before(0, wrong, n)), REFUSED)
                    self.assertEqual(ask_last(before(3, wrong, n)), REFUSED)
                    self.assertEqual(ask_last(before(wrong, wrong, n)), REFUSED)

    def test_n_outside_0_to_20_is_refused(self):
        for n in NO_LENGTH:
            for i, j in ((0, 1), (3, 2), (1, 1)):
                with self.subTest(i=i, j=j, n=n):
                    self.assertEqual(ask_last(word(0, [1]), before(i, j, n)), REFUSED)

    def test_changes_nothing(self):
        for i, j, n in ((0, 1, 20), (3, 3, 0), (2, 1, 7), (-1, 0, 3), (0, 4, 3), (0, 1, -1), (1, 0, 21)):
            with self.subTest(i=i, j=j, n=n):
                self.assertEqual(look_behind(before(i, j, n)), look_behind())


if __name__ == "__main__":
    unittest.main()
