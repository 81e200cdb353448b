"""The four words that are kept, and the calls on them.

Each call gives back the list of the numbers that it answers.
"""

from wordwait.counting import count_first_ends, count_without
from wordwait.overlap import conway_number, overlap_bits
from wordwait.race import best_rival, chance_before, stands_in

DONE = 0
REFUSED = -1
ONE_IN_THE_OTHER = -3
WORD_COUNT = 4
FIRST_Q = 2
LEAST_Q = 2
MOST_Q = 6
SHORTEST_WORD = 1
LONGEST_WORD = 16
LEAST_N = 0
MOST_N = 20
LONGEST_RIVALLED = 8
LEAST_TOLD = 1
MOST_TOLD = 8


def names_a_word(i):
    # Asked ahead of every index, because Python would take -1 for the last word.
    return 0 <= i < WORD_COUNT


def can_be_counted(n):
    return LEAST_N <= n <= MOST_N


def first_letters(row, most):
    if not LEAST_TOLD <= most <= MOST_TOLD:
        return []
    return row[:most]


class Words:
    def __init__(self):
        self.start_over(FIRST_Q)

    def start_over(self, q):
        self.q = q
        self.kept = [[0] for i in range(WORD_COUNT)]

    def begin(self):
        self.start_over(FIRST_Q)
        return [DONE]

    def letters(self, q):
        if not LEAST_Q <= q <= MOST_Q:
            return [REFUSED]
        self.start_over(q)
        return [DONE]

    def word(self, i, row):
        if not names_a_word(i) or not self.can_be_kept(row):
            return [REFUSED]
        self.kept[i] = list(row)
        return [DONE]

    def can_be_kept(self, row):
        if not SHORTEST_WORD <= len(row) <= LONGEST_WORD:
            return False
        return all([0 <= letter < self.q for letter in row])

    def overlaps(self, i, j):
        if not names_a_word(i) or not names_a_word(j):
            return [REFUSED]
        return [overlap_bits(self.kept[i], self.kept[j])]

    def wait(self, i):
        if not names_a_word(i):
            return [REFUSED]
        return [DONE, conway_number(self.q, self.kept[i], self.kept[i])]

    def without(self, i, n):
        if not names_a_word(i) or not can_be_counted(n):
            return [REFUSED]
        return [DONE, count_without(self.q, self.kept[i], n)]

    def firsts(self, i, n):
        if not names_a_word(i) or not can_be_counted(n):
            return [REFUSED]
        return [DONE, count_first_ends(self.q, self.kept[i], [], n)]

    def before(self, i, j, n):
        if not names_a_word(i) or not names_a_word(j) or not can_be_counted(n):
            return [REFUSED]
        return [DONE, count_first_ends(self.q, self.kept[i], [self.kept[j]], n)]

    def chance(self, i, j):
        if not names_a_word(i) or not names_a_word(j):
            return [REFUSED]
        a = self.kept[i]
        b = self.kept[j]
        if stands_in(a, b) or stands_in(b, a):
            return [ONE_IN_THE_OTHER]
        return [DONE] + chance_before(self.q, a, b)

    def rival(self, i, most):
        if not names_a_word(i) or len(self.kept[i]) > LONGEST_RIVALLED:
            return [REFUSED]
        best = best_rival(self.q, self.kept[i])
        return [len(best)] + first_letters(best, most)
