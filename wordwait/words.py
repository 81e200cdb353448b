"""The four words that are kept, and the calls on them.

Each call gives back the list of the numbers that it answers.
"""

from wordwait.overlap import conway_number, overlap_bits

DONE = 0
REFUSED = -1
WORD_COUNT = 4
FIRST_Q = 2
LEAST_Q = 2
MOST_Q = 6
SHORTEST_WORD = 1
LONGEST_WORD = 16


def names_a_word(i):
    # Asked ahead of every index, because Python would take -1 for the last word.
    return 0 <= i < WORD_COUNT


class Words:
    def __init__(self):
        self.start_over(FIRST_Q)

    def start_over(self, q):
        self.q = q
        self.kept = [[0] for i in range(WORD_COUNT)]

    def begin(self):
        self.start_over(FIRST_Q)
        return [DONE]

    def letters(self, q):
        if not LEAST_Q <= q <= MOST_Q:
            return [REFUSED]
        self.start_over(q)
        return [DONE]

    def word(self, i, row):
        if not names_a_word(i) or not self.can_be_kept(row):
            return [REFUSED]
        self.kept[i] = list(row)
        return [DONE]

    def can_be_kept(self, row):
        if not SHORTEST_WORD <= len(row) <= LONGEST_WORD:
            return False
        return all([0 <= letter < self.q for letter in row])

    def overlaps(self, i, j):
        if not names_a_word(i) or not names_a_word(j):
            return [REFUSED]
        return [overlap_bits(self.kept[i], self.kept[j])]

    def wait(self, i):
        if not names_a_word(i):
            return [REFUSED]
        return [DONE, conway_number(self.q, self.kept[i], self.kept[i])]
