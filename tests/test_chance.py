"""Promise 9: chance."""

import unittest
from fractions import Fraction

from calls import (BEGIN, FAR_OUTSIDE, NO_WORD, REFUSED, ask, ask_last, before, chance, conway, letters, line,
                   look_behind, rows_up_to, stands_in, word)
from wordwait.desk import answers

STANDS_IN = [-3]


def told_chance(q, a, b):
    return ask_last(letters(q), word(0, a), word(1, b), chance(0, 1))


def as_told(likely):
    return [0, likely.numerator, likely.denominator]


def chance_by_conway(q, a, b):
    x = conway(q, b, b) - conway(q, b, a)
    y = conway(q, a, a) - conway(q, a, b)
    return Fraction(x, x + y)


def solve(rows):
    """The first unknown of as many equations as there are unknowns, each a row of factors and what they make."""
    rows = [list(row) for row in rows]
    size = len(rows)
    for column in range(size):
        swap = next(r for r in range(column, size) if rows[r][column] != 0)
        rows[column], rows[swap] = rows[swap], rows[column]
        for r in range(size):
            if r != column and rows[r][column] != 0:
                factor = rows[r][column] / rows[column][column]
                rows[r] = [one - factor * other for one, other in zip(rows[r], rows[column])]
    return rows[0][size] / rows[0][0]


def chance_by_letters(q, a, b):
    """How likely a comes before b, from how likely it is behind each beginning of the two.

    How likely it is behind a beginning is the mean of how likely it is behind that and one letter more.
    """
    beginnings = []
    for row in [a[:k] for k in range(len(a))] + [b[:k] for k in range(len(b))]:
        if row not in beginnings:
            beginnings.append(row)
    equations = []
    for row in beginnings:
        equation = [Fraction(q if row == other else 0) for other in beginnings] + [Fraction(0)]
        for letter in range(q):
            seen = row + [letter]
            if seen[-len(a):] == a:
                equation[-1] += 1
            elif seen[-len(b):] != b:
                longest = next(seen[k:] for k in range(len(seen) + 1) if seen[k:] in beginnings)
                equation[beginnings.index(longest)] -= 1
        equations.append(equation)
    return solve(equations)


class ChanceTest(unittest.TestCase):
    def test_answers_0_and_two_numbers(self):
        calls = line(BEGIN, word(0, [1, 0, 0]), word(1, [0, 0, 0]), chance(0, 1))
        self.assertEqual(answers(calls), [1, 0, 1, 0, 1, 0, 3, 0, 7, 8])

    def test_words_of_the_same_length(self):
        for a, b, part, whole in (([1, 0, 0], [0, 0, 0], 7, 8), ([0, 0, 1], [0, 1, 1], 2, 3),
                                  ([0, 1, 1], [1, 1, 0], 3, 4), ([0, 1, 0], [1, 0, 1], 1, 2),
                                  ([1, 0, 1, 0], [0, 1, 0, 0], 9, 14)):
            with self.subTest(a=a, b=b):
                self.assertEqual(told_chance(2, a, b), [0, part, whole])
                self.assertEqual(told_chance(2, b, a), [0, whole - part, whole])

    def test_words_of_different_lengths(self):
        for q, a, b, part, whole in ((2, [1], [0, 0], 3, 4), (6, [0], [1, 2], 6, 7), (3, [0], [1, 1, 1], 13, 14),
                                     (2, [1, 1], [0, 1, 0], 5, 8)):
            with self.subTest(q=q, a=a, b=b):
                self.assertEqual(told_chance(q, a, b), [0, part, whole])
                self.assertEqual(told_chance(q, b, a), [0, whole - part, whole])

    def test_the_order_of_places_is_kept(self):
        told = ask(word(1, [0, 0, 1]), word(3, [0, 1, 1]), chance(1, 3), chance(3, 1))
        self.assertEqual(told[2:], [[0, 2, 3], [0, 1, 3]])

    def test_lowest_terms(self):
        for q in range(2, 7):
            with self.subTest(q=q):
                self.assertEqual(told_chance(q, [0], [1]), [0, 1, 2])
                self.assertEqual(told_chance(q, [0] * 16, [q - 1] * 16), [0, 1, 2])
                part = 1 + q + q ** 2 + q ** 3
                self.assertEqual(told_chance(q, [0], [1] * 4), [0, part, part + 1])

    def test_every_pair_of_short_words_by_what_the_next_letter_does(self):
        for q, longest in ((2, 4), (3, 2), (5, 1)):
            for a in rows_up_to(q, longest):
                for b in rows_up_to(q, longest):
                    with self.subTest(q=q, a=a, b=b):
                        if stands_in(a, b) or stands_in(b, a):
                            self.assertEqual(told_chance(q, a, b), STANDS_IN)
                        else:
                            self.assertEqual(told_chance(q, a, b), as_told(chance_by_letters(q, a, b)))

    def test_long_words_with_every_q(self):
        for q in range(2, 7):
            last = q - 1
            for a, b in (([last] * 15 + [0], [0] + [last] * 15), ([0, last] * 8, [last, 0] * 8),
                         ([0, last] * 8, [last, last]), ([0] * 16, [last] + [0] * 15), ([last] * 16, [0]),
                         ([0, 0, last] * 5, [last, 0, last, 0, 0]), ([0] * 15 + [last], [0] * 14 + [last, 0])):
                with self.subTest(q=q, a=a, b=b):
                    self.assertEqual(told_chance(q, a, b), as_told(chance_by_conway(q, a, b)))
                    self.assertEqual(told_chance(q, b, a), as_told(chance_by_conway(q, b, a)))

    def test_large_numbers(self):
        self.assertEqual(told_chance(6, [5] * 15 + [4], [4] + [5] * 15), [0, 376147987661, 846332972236])
        self.assertEqual(told_chance(6, [0], [1] * 16), [0, 564221981491, 564221981492])

    def test_lies_between_what_before_tells_of_both(self):
        for q, a, b in ((2, [1, 0, 1], [0, 1, 1]), (2, [1, 1], [0, 1, 0]), (3, [2, 0], [0, 1])):
            with self.subTest(q=q, a=a, b=b):
                told = ask(letters(q), word(0, a), word(1, b), *[before(0, 1, n) for n in range(21)],
                           *[before(1, 0, n) for n in range(21)], chance(0, 1))[3:]
                least = sum(Fraction(told[n][1], q ** n) for n in range(21))
                most = 1 - sum(Fraction(told[21 + n][1], q ** n) for n in range(21))
                self.assertLess(least, Fraction(told[42][1], told[42][2]))
                self.assertLess(Fraction(told[42][1], told[42][2]), most)
                self.assertLess(most - least, Fraction(1, 10))

    def test_each_of_the_four_with_each(self):
        rows = [[0, 0], [0, 1, 1], [1, 0, 1], [1, 1, 1, 1]]
        told = ask(*[word(i, rows[i]) for i in range(4)], *[chance(i, j) for i in range(4) for j in range(4)])
        self.assertEqual(told[4:], [STANDS_IN if a == b else as_told(chance_by_conway(2, a, b))
                                    for a in rows for b in rows])

    def test_the_same_word_is_refused_with_3(self):
        for row in ([0], [1, 0], [1, 1, 1], [0, 1] * 8):
            with self.subTest(row=row):
                self.assertEqual(told_chance(2, row, row), STANDS_IN)
        for i in range(4):
            for j in range(4):
                with self.subTest(i=i, j=j):
                    self.assertEqual(ask_last(chance(i, j)), STANDS_IN)

    def test_one_that_stands_in_the_other_is_refused_with_3(self):
        for a, b in (([1, 0], [1]), ([0, 1, 0], [1]), ([0, 1], [1]), ([1, 1], [1]), ([0, 1, 1, 0], [1, 1]),
                     ([0, 0, 1, 1], [0, 1, 1]), ([0, 0, 1, 1], [0, 0, 1]), ([0] * 15 + [1], [1]),
                     ([1] + [0] * 15, [1]), ([0] * 7 + [1] + [0] * 8, [0, 1, 0]), ([0, 1] * 8, [1, 0] * 7 + [1])):
            with self.subTest(a=a, b=b):
                self.assertEqual(told_chance(2, a, b), STANDS_IN)
                self.assertEqual(told_chance(2, b, a), STANDS_IN)

    def test_words_that_overlap_but_do_not_stand_in_one_another_are_not_refused(self):
        self.assertEqual(told_chance(2, [0, 1], [1, 0]), [0, 1, 2])
        self.assertEqual(told_chance(3, [0, 2, 1], [2, 0]), as_told(chance_by_conway(3, [0, 2, 1], [2, 0])))
        self.assertEqual(told_chance(3, [0, 1, 2], [0, 2]), as_told(chance_by_conway(3, [0, 1, 2], [0, 2])))

    def test_i_or_j_outside_0_to_3_is_refused_with_1(self):
        for wrong in NO_WORD:
            for right in range(4):
                with self.subTest(wrong=wrong, right=right):
                    self.assertEqual(ask_last(word(1, [1]), chance(wrong, right)), REFUSED)
                    self.assertEqual(ask_last(word(1, [1]), chance(right, wrong)), REFUSED)

    def test_1_comes_ahead_of_3(self):
        # Behind begin all words are the same; and the places handed over are the same too.
        for wrong in NO_WORD:
            with self.subTest(wrong=wrong):
                self.assertEqual(ask_last(chance(wrong, wrong)), REFUSED)
                self.assertEqual(ask_last(chance(wrong, 3)), REFUSED)
                self.assertEqual(ask_last(chance(0, wrong)), REFUSED)
        self.assertEqual(ask_last(chance(*FAR_OUTSIDE)), REFUSED)

    def test_a_refusal_is_its_number_alone(self):
        self.assertEqual(answers([0, 8, 0, 1, 8, 0, 4]), [1, 0, 1, -3, 1, -1])

    def test_changes_nothing(self):
        for i, j in ((0, 1), (1, 0), (3, 0), (2, 2), (1, 2), (-1, 0), (0, 4)):
            with self.subTest(i=i, j=j):
                self.assertEqual(look_behind(chance(i, j)), look_behind())


if __name__ == "__main__":
    unittest.main()
