"""Promise 4: overlaps."""

import unittest

from calls import NO_WORD, REFUSED, ask, ask_last, letters, look_behind, overlaps, rows_up_to, word


def told_overlaps(q, a, b):
    return ask_last(letters(q), word(0, a), word(1, b), overlaps(0, 1))


def expected_overlaps(a, b):
    """Lays b over a from each place of a on: an overlap if what comes to lie together is alike."""
    bits = 0
    for start in range(len(a)):
        k = len(a) - start
        if k <= len(b) and all(a[start + t] == b[t] for t in range(k)):
            bits |= 1 << (k - 1)
    return bits


class OverlapsTest(unittest.TestCase):
    def test_a_word_with_itself(self):
        for row, bits in (([0], 1), ([0, 1], 2), ([1, 1], 3), ([1, 0, 1], 5), ([0, 1, 0, 1], 10),
                          ([0, 0, 0, 0], 15), ([1, 0, 0, 1, 0, 0, 1], 73)):
            with self.subTest(row=row):
                self.assertEqual(ask_last(word(2, row), overlaps(2, 2)), [bits])

    def test_two_words_in_both_orders(self):
        self.assertEqual(told_overlaps(2, [0, 0, 1], [0, 1, 1]), [2])
        self.assertEqual(told_overlaps(2, [0, 1, 1], [0, 0, 1]), [0])
        self.assertEqual(told_overlaps(2, [1, 0, 1], [0, 1, 0]), [2])
        self.assertEqual(told_overlaps(2, [0, 1, 0], [1, 0, 1]), [2])
        self.assertEqual(told_overlaps(3, [2, 1, 0, 1], [1, 0, 1, 2]), [5])
        self.assertEqual(told_overlaps(3, [1, 0, 1, 2], [2, 1, 0, 1]), [1])

    def test_the_order_of_places_is_kept(self):
        told = ask(word(0, [0, 0, 1]), word(3, [0, 1, 1]), overlaps(0, 3), overlaps(3, 0))
        self.assertEqual(told[2:], [[2], [0]])

    def test_words_of_different_lengths(self):
        self.assertEqual(told_overlaps(2, [1], [1, 0, 0, 1]), [1])
        self.assertEqual(told_overlaps(2, [1, 0, 0, 1], [1]), [1])
        self.assertEqual(told_overlaps(2, [1, 0], [1, 0, 0]), [2])
        self.assertEqual(told_overlaps(2, [1, 0, 0], [1, 0]), [0])
        self.assertEqual(told_overlaps(2, [1, 1], [1, 1, 1, 1]), [3])
        self.assertEqual(told_overlaps(2, [1, 1, 1, 1], [1, 1]), [3])

    def test_a_word_in_the_middle_of_another_is_no_overlap(self):
        self.assertEqual(told_overlaps(3, [0, 1, 0], [1]), [0])
        self.assertEqual(told_overlaps(3, [1], [0, 1, 0]), [0])

    def test_words_of_1_letter(self):
        self.assertEqual(told_overlaps(6, [5], [5]), [1])
        self.assertEqual(told_overlaps(6, [5], [0]), [0])

    def test_words_of_16_letters(self):
        for q in (2, 6):
            with self.subTest(q=q):
                self.assertEqual(told_overlaps(q, [q - 1] * 16, [q - 1] * 16), [65535])
                self.assertEqual(told_overlaps(q, [0] + [1] * 15, [1] * 15 + [0]), [32767])
                self.assertEqual(told_overlaps(q, [1] * 15 + [0], [0] + [1] * 15), [1])
                self.assertEqual(told_overlaps(q, [0] * 15 + [1], [0] * 15 + [1]), [32768])
                self.assertEqual(told_overlaps(q, [0] * 16, [1] * 16), [0])

    def test_16_letters_with_1(self):
        self.assertEqual(told_overlaps(2, [0] * 15 + [1], [1]), [1])
        self.assertEqual(told_overlaps(2, [1], [0] * 15 + [1]), [0])
        self.assertEqual(told_overlaps(2, [1], [1] + [0] * 15), [1])

    def test_every_pair_of_short_words(self):
        for q, most in ((2, 4), (3, 2)):
            for a in rows_up_to(q, most):
                for b in rows_up_to(q, most):
                    with self.subTest(q=q, a=a, b=b):
                        self.assertEqual(told_overlaps(q, a, b), [expected_overlaps(a, b)])

    def test_every_pair_of_places(self):
        rows = [[0, 1, 2], [2, 0], [2, 0, 1, 2, 0], [0]]
        told = ask(letters(3), *[word(i, rows[i]) for i in range(4)],
                   *[overlaps(i, j) for i in range(4) for j in range(4)])
        self.assertEqual(told[5:], [[expected_overlaps(a, b)] for a in rows for b in rows])

    def test_i_or_j_outside_0_to_3_is_refused(self):
        for wrong in NO_WORD:
            for right in range(4):
                with self.subTest(wrong=wrong, right=right):
                    self.assertEqual(ask_last(overlaps(wrong, right)), REFUSED)
                    self.assertEqual(ask_last(overlaps(right, wrong)), REFUSED)
            for other in NO_WORD:
                with self.subTest(wrong=wrong, other=other):
                    self.assertEqual(ask_last(overlaps(wrong, other)), REFUSED)

    def test_changes_nothing(self):
        for i, j in ((0, 1), (3, 3), (-1, 0), (0, 4)):
            with self.subTest(i=i, j=j):
                self.assertEqual(look_behind(overlaps(i, j)), look_behind())


if __name__ == "__main__":
    unittest.main()
