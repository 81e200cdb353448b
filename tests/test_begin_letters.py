"""Promises 1 and 2: begin and letters."""

import unittest

from calls import (ALL_WAITS, BEGIN, DONE, FAR_OUTSIDE, LOOK, REFUSED, all_letter_0, ask, ask_last,
                   letters, overlaps, take_apart, word)
from wordwait.desk import answers

FOUR_WORDS = [word(0, [1, 2]), word(1, [4]), word(2, [3, 3, 3]), word(3, [0, 1, 0])]


class BeginTest(unittest.TestCase):
    def test_answers_0_alone(self):
        self.assertEqual(answers([0]), [1, 0])

    def test_two_letters_and_each_word_the_letter_0(self):
        self.assertEqual(ask(*LOOK), all_letter_0(2))

    def test_letter_1_is_there_and_letter_2_is_not(self):
        self.assertEqual(ask(word(0, [1]), word(0, [2])), [DONE, REFUSED])

    def test_every_word_is_the_letter_0_and_no_other(self):
        for i in range(4):
            with self.subTest(i=i):
                other = (i + 1) % 4
                self.assertEqual(ask_last(word(other, [0]), overlaps(other, i)), [1])
                self.assertEqual(ask_last(word(other, [1]), overlaps(other, i)), [0])

    def test_again_puts_q_and_all_words_back(self):
        told = ask(letters(5), *FOUR_WORDS, BEGIN, *LOOK)
        self.assertEqual(told[5], DONE)
        self.assertEqual(told[6:], all_letter_0(2))

    def test_again_puts_back_which_letters_there_are(self):
        self.assertEqual(ask_last(letters(6), BEGIN, word(0, [2])), REFUSED)

    def test_again_and_again(self):
        self.assertEqual(take_apart(answers([0, 0, 0])), [DONE, DONE, DONE])


class LettersTest(unittest.TestCase):
    def test_from_2_to_6_answers_0_alone(self):
        for q in range(2, 7):
            with self.subTest(q=q):
                self.assertEqual(answers([0, 1, q]), [1, 0, 1, 0])

    def test_so_many_letters_from_now_on(self):
        for q in range(2, 7):
            with self.subTest(q=q):
                self.assertEqual(ask(letters(q), *LOOK)[1:], all_letter_0(q))
                self.assertEqual(ask(letters(q), word(0, [q - 1]), word(0, [q])), [DONE, DONE, REFUSED])

    def test_puts_all_words_back(self):
        told = ask(letters(5), *FOUR_WORDS, letters(3), *LOOK)
        self.assertEqual(told[6:], all_letter_0(3))

    def test_puts_all_words_back_when_q_stays(self):
        told = ask(letters(5), *FOUR_WORDS, letters(5), *LOOK)
        self.assertEqual(told[6:], all_letter_0(5))

    def test_outside_2_to_6_is_refused(self):
        for q in (-1, 0, 1, 7, 8) + FAR_OUTSIDE:
            with self.subTest(q=q):
                self.assertEqual(answers([0, 1, q]), [1, 0, 1, -1])

    def test_refused_leaves_q_and_words(self):
        for q in (1, 7) + FAR_OUTSIDE:
            with self.subTest(q=q):
                kept = ask(letters(5), *FOUR_WORDS, *LOOK)[5:]
                told = ask(letters(5), *FOUR_WORDS, letters(q), *LOOK)
                self.assertEqual(told[5], REFUSED)
                self.assertEqual(told[6:], kept)
                self.assertNotEqual(kept, all_letter_0(5))

    def test_refused_leaves_which_letters_there_are(self):
        self.assertEqual(ask(letters(3), letters(7), word(0, [2]), word(0, [3])), [DONE, REFUSED, DONE, REFUSED])

    def test_refused_behind_begin_leaves_two_letters(self):
        self.assertEqual(ask(letters(7), *ALL_WAITS), [REFUSED] + [[0, 2]] * 4)


if __name__ == "__main__":
    unittest.main()
