"""Promise 10: rival."""

import itertools
import unittest

from calls import (BEGIN, FAR_OUTSIDE, NO_WORD, REFUSED, ask, ask_last, chance, letters, line, look_behind, rival,
                   word)
from wordwait.desk import answers

DIGITS = "012345"
# Words of 4 to 8 letters for which all others are gone through, beside the short ones that are taken every one.
LONGER = ((3, "2120212"), (3, "00000000"), (3, "01201201"), (3, "22112211"), (4, "33333333"), (4, "10321032"),
          (4, "0120123"), (5, "43214321"), (5, "0000001"), (5, "410410"), (6, "54321"), (6, "012345"), (6, "0505050"),
          (6, "1111111"))


def row_from(text):
    return [int(sign) for sign in text]


def told_rival(q, row, most=8):
    return ask_last(letters(q), word(0, row), rival(0, most))


def conway_with_itself(q, text):
    return sum(q ** k for k in range(1, len(text) + 1) if text[-k:] == text[:k])


def words_of(q, size):
    """All words of so many letters, in their order, each with Conway's number of it and itself."""
    for signs in itertools.product(DIGITS[:q], repeat=size):
        text = "".join(signs)
        yield text, conway_with_itself(q, text)


def best_by_going_through(q, text, others):
    """The first of the others that most likely comes before the word: x of x + y, as the document says it."""
    own = conway_with_itself(q, text)
    beginnings = [(text[:k], q ** k) for k in range(1, len(text) + 1)]
    ends = [(text[-k:], q ** k) for k in range(1, len(text) + 1)]
    best, best_part, best_whole = None, 0, 1
    for other, others_own in others:
        if other == text:
            continue
        x = own - sum([number for end, number in ends if other.startswith(end)])
        y = others_own - sum([number for beginning, number in beginnings if other.endswith(beginning)])
        if x * best_whole > best_part * (x + y):
            best, best_part, best_whole = other, x, x + y
    return best


class RivalTest(unittest.TestCase):
    def assert_best(self, q, text, others):
        expected = row_from(best_by_going_through(q, text, others))
        self.assertEqual(told_rival(q, row_from(text)), [len(text)] + expected)

    def test_answers_how_many_letters_and_the_letters(self):
        calls = line(BEGIN, word(0, [0, 0, 0]), rival(0, 8))
        self.assertEqual(answers(calls), [1, 0, 1, 0, 4, 3, 1, 0, 0])

    def test_words_of_3_letters(self):
        for text, best in (("000", "100"), ("001", "100"), ("010", "001"), ("011", "001"), ("100", "110"),
                           ("101", "110"), ("110", "011"), ("111", "011")):
            with self.subTest(text=text):
                self.assertEqual(told_rival(2, row_from(text)), [3] + row_from(best))

    def test_every_short_word_against_all_others(self):
        for q, longest in ((2, 8), (3, 5), (4, 4), (5, 3), (6, 3)):
            for size in range(1, longest + 1):
                others = list(words_of(q, size))
                for text, own in others:
                    with self.subTest(q=q, text=text):
                        self.assert_best(q, text, others)

    def test_longer_words_against_all_others(self):
        for q, text in LONGER:
            with self.subTest(q=q, text=text):
                self.assert_best(q, text, words_of(q, len(text)))

    def test_8_letters_with_q_of_6_against_all_others(self):
        self.assert_best(6, "01230120", words_of(6, 8))

    def test_8_letters_with_q_of_6(self):
        for text, best in (("00000000", "10000000"), ("55555555", "05555555"), ("01234501", "20123450"),
                           ("50123450", "15012345"), ("54325432", "05432543"), ("10101010", "21010101")):
            with self.subTest(text=text):
                self.assertEqual(told_rival(6, row_from(text)), [8] + row_from(best))

    def test_a_word_of_1_letter_has_the_first_other_letter(self):
        for q in range(2, 7):
            for letter in range(q):
                with self.subTest(q=q, letter=letter):
                    self.assertEqual(told_rival(q, [letter]), [1, 1 if letter == 0 else 0])

    def test_all_letters_alike(self):
        for q in range(2, 7):
            for size in range(1, 9):
                for letter in range(q):
                    with self.subTest(q=q, size=size, letter=letter):
                        first = 1 if letter == 0 else 0
                        self.assertEqual(told_rival(q, [letter] * size), [size, first] + [letter] * (size - 1))

    def test_the_first_of_several_equally_likely(self):
        # 0 0 and 1 0 come before 0 1 as likely as it before them.
        told = ask(word(0, [0, 1]), word(1, [0, 0]), word(2, [1, 0]), chance(1, 0), chance(2, 0), rival(0, 8))
        self.assertEqual(told[3:], [[0, 1, 2], [0, 1, 2], [2, 0, 0]])
        told = ask(letters(4), word(0, [0, 0]), *[call for letter in (1, 2, 3)
                                                  for call in (word(1, [letter, 0]), chance(1, 0))], rival(0, 8))
        self.assertEqual(told[3::2], [[0, 5, 8]] * 3)
        self.assertEqual(told[-1], [2, 1, 0])

    def test_most_from_1_to_8_tells_so_many_letters(self):
        row = [0, 1, 1, 0, 1, 0, 0, 1]
        best = told_rival(3, row)[1:]
        self.assertEqual(len(best), 8)
        for most in range(1, 9):
            with self.subTest(most=most):
                self.assertEqual(told_rival(3, row, most), [8] + best[:most])

    def test_most_above_the_words_length_tells_all_letters(self):
        for size in range(1, 9):
            best = told_rival(2, [1] * size)
            self.assertEqual(len(best), size + 1)
            for most in range(size, 9):
                with self.subTest(size=size, most=most):
                    self.assertEqual(told_rival(2, [1] * size, most), best)

    def test_most_outside_1_to_8_tells_no_letters(self):
        for most in (0, -1, -2, -8, 9, 10, 16) + FAR_OUTSIDE:
            for size in (1, 3, 8):
                with self.subTest(most=most, size=size):
                    self.assertEqual(told_rival(2, [1] * size, most), [size])

    def test_each_of_the_four(self):
        told = ask(word(0, [1]), word(1, [0, 0]), word(2, [0, 1, 0]), word(3, [1, 1, 1, 1]),
                   *[rival(i, 8) for i in range(4)])
        self.assertEqual(told[4:], [[1, 0], [2, 1, 0], [3, 0, 0, 1], [4, 0, 1, 1, 1]])

    def test_behind_begin_each_word_is_the_letter_0(self):
        self.assertEqual(ask(*[rival(i, 8) for i in range(4)]), [[1, 1]] * 4)

    def test_more_than_8_letters_are_refused(self):
        for size in range(9, 17):
            for most in (1, 8, 0, 9, -1):
                with self.subTest(size=size, most=most):
                    self.assertEqual(told_rival(2, [0] * (size - 1) + [1], most), REFUSED)
        self.assertEqual(answers(line(BEGIN, word(2, [1] * 9), rival(2, 8))), [1, 0, 1, 0, 1, -1])

    def test_only_word_i_must_not_have_more_than_8_letters(self):
        told = ask(word(0, [1] * 9), word(1, [1] * 8), rival(0, 1), rival(1, 1), rival(2, 1))
        self.assertEqual(told[2:], [REFUSED, [8, 0], [1, 1]])

    def test_i_outside_0_to_3_is_refused(self):
        for i in NO_WORD:
            for most in (0, 1, 8, 9, -1):
                with self.subTest(i=i, most=most):
                    self.assertEqual(ask_last(rival(i, most)), REFUSED)

    def test_changes_nothing(self):
        for i, most in ((0, 8), (1, 2), (3, 0), (2, 9), (-1, 8), (4, 8)):
            with self.subTest(i=i, most=most):
                self.assertEqual(look_behind(rival(i, most)), look_behind())
        longer = word(3, [0, 1, 2] * 3)
        self.assertEqual(look_behind(longer, rival(3, 8)), look_behind(longer))


if __name__ == "__main__":
    unittest.main()
