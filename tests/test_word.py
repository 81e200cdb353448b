"""Promise 3: word."""

import unittest

from calls import BEGIN, DONE, LOOK, NO_WORD, REFUSED, ask, ask_last, letters, line, overlaps, wait, word
from wordwait.desk import answers


def is_kept(q, i, row):
    """Whether word i, told through its overlaps with an equal word at another place, is this row."""
    other = (i + 1) % 4
    told = ask_last(letters(q), word(i, row), word(other, row), overlaps(i, other))
    return told[0] >> (len(row) - 1) == 1


class WordTest(unittest.TestCase):
    def test_answers_0_alone(self):
        self.assertEqual(answers(line(BEGIN, word(0, [1, 0, 1]))), [1, 0, 1, 0])

    def test_each_of_the_four_is_kept(self):
        for i in range(4):
            for row in ([1], [0, 1], [2, 1, 0], [0, 0, 2, 2, 1]):
                with self.subTest(i=i, row=row):
                    self.assertEqual(ask(letters(3), word(i, row)), [DONE, DONE])
                    self.assertTrue(is_kept(3, i, row))

    def test_only_word_i_changes(self):
        for i in range(4):
            with self.subTest(i=i):
                told = ask(word(i, [1, 1]), *[wait(j) for j in range(4)])
                self.assertEqual(told[1:], [[0, 6] if j == i else [0, 2] for j in range(4)])

    def test_takes_the_place_of_the_one_before(self):
        self.assertEqual(ask(word(2, [1, 1, 1]), word(2, [1]), wait(2)), [DONE, DONE, [0, 2]])

    def test_the_four_side_by_side(self):
        told = ask(word(0, [0]), word(1, [1, 1]), word(2, [0, 1, 0]), word(3, [1, 0, 0, 0]),
                   *[wait(i) for i in range(4)])
        self.assertEqual(told[4:], [[0, 2], [0, 6], [0, 10], [0, 16]])

    def test_from_1_to_16_letters(self):
        for size in range(1, 17):
            with self.subTest(size=size):
                row = [1] + [0] * (size - 1)
                self.assertEqual(ask(word(3, row), wait(3)), [DONE, [0, 2 ** size]])

    def test_all_16_letters_are_kept(self):
        row = [0, 1, 2, 3, 4, 5, 5, 4, 3, 2, 1, 0, 0, 2, 4, 1]
        self.assertTrue(is_kept(6, 0, row))
        self.assertEqual(ask_last(letters(6), word(0, row), word(1, [2, 4, 1]), overlaps(0, 1)), [4])

    def test_no_letters_are_refused(self):
        for i in range(4):
            with self.subTest(i=i):
                self.assertEqual(ask_last(word(i, [])), REFUSED)

    def test_17_letters_are_refused(self):
        self.assertEqual(ask(word(0, [1] * 17), wait(0)), [REFUSED, [0, 2]])

    def test_letters_0_and_q_less_1(self):
        for q in range(2, 7):
            with self.subTest(q=q):
                self.assertEqual(ask(letters(q), word(0, [0, q - 1]), wait(0)), [DONE, DONE, [0, q * q]])

    def test_a_letter_not_below_q_is_refused(self):
        for q in range(2, 7):
            for letter in (q, q + 1, 254, 255):
                with self.subTest(q=q, letter=letter):
                    self.assertEqual(ask_last(letters(q), word(0, [letter])), REFUSED)

    def test_a_wrong_letter_is_refused_wherever_it_stands(self):
        for place in range(16):
            for letter in (3, 255):
                with self.subTest(place=place, letter=letter):
                    row = [2] * 16
                    row[place] = letter
                    self.assertEqual(ask_last(letters(3), word(0, row)), REFUSED)

    def test_i_outside_0_to_3_is_refused(self):
        for i in NO_WORD:
            with self.subTest(i=i):
                self.assertEqual(ask_last(word(i, [1])), REFUSED)

    def test_refused_leaves_q_and_words(self):
        kept_words = [letters(4), word(0, [3]), word(1, [2, 3]), word(2, [3, 1, 2]), word(3, [2, 2])]
        kept = ask(*kept_words, *LOOK)[5:]
        wrong = [word(i, [1, 1, 1]) for i in NO_WORD]
        wrong += [word(i, row) for i in range(4) for row in ([], [4], [255], [1, 1, 1, 4], [4, 1, 1])]
        for call in wrong:
            with self.subTest(call=call):
                told = ask(*kept_words, call, *LOOK)
                self.assertEqual(told[5], REFUSED)
                self.assertEqual(told[6:], kept)

    def test_calls_behind_a_refused_word_are_read_right(self):
        told = ask(word(4, [1, 0, 1]), wait(0), word(0, []), wait(0), word(0, [255] * 16), wait(0), word(0, [1, 1]),
                   wait(0))
        self.assertEqual(told, [REFUSED, [0, 2], REFUSED, [0, 2], REFUSED, [0, 2], DONE, [0, 6]])


if __name__ == "__main__":
    unittest.main()
