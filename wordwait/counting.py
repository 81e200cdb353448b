"""How many rows of letters hold a word nowhere, or for the first time at their end."""

from wordwait.overlap import overlaps_of


def steps_from(q, word, k):
    """For each letter that comes behind the word's first k, how many of its first letters stand at the end then."""
    return [max(overlaps_of(word[:k] + [letter], word), default=0) for letter in range(q)]


def steps_of(q, word):
    return [steps_from(q, word, k) for k in range(len(word))]


class Watch:
    # There are too many rows to go through each. But rows that end in as many of the first letters of each watched
    # word fare alike with whatever comes behind them: these ends are kept, each with how many rows have it.
    def __init__(self, q, watched):
        self.q = q
        self.sizes = [len(word) for word in watched]
        self.steps = [steps_of(q, word) for word in watched]

    def end_behind(self, end, letter):
        return tuple([steps[k][letter] for steps, k in zip(self.steps, end)])

    def holds_none(self, end):
        return all([k < size for k, size in zip(end, self.sizes)])

    def holds_first_alone(self, end):
        return end[0] == self.sizes[0] and all([k < size for k, size in zip(end[1:], self.sizes[1:])])

    def one_letter_on(self, counts):
        longer = {}
        for end, count in counts.items():
            for letter in range(self.q):
                reached = self.end_behind(end, letter)
                longer[reached] = longer.get(reached, 0) + count
        return longer

    def rows_with_none(self, n):
        counts = {tuple([0 for size in self.sizes]): 1}
        for step in range(n):
            longer = self.one_letter_on(counts)
            counts = dict([(end, count) for end, count in longer.items() if self.holds_none(end)])
        return counts


def count_without(q, word, n):
    rows = Watch(q, [word]).rows_with_none(n)
    return sum(rows.values())


def count_first_ends(q, word, others, n):
    """How many rows of n letters have the word at their end for the first time and none of the others in them."""
    if n == 0:
        return 0
    watch = Watch(q, [word] + others)
    rows = watch.one_letter_on(watch.rows_with_none(n - 1))
    return sum([count for end, count in rows.items() if watch.holds_first_alone(end)])
