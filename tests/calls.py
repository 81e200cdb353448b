"""Writes calls down as the list that answers takes, takes its answers apart again, and goes through all words."""

import itertools

from wordwait.desk import answers

FAR_OUTSIDE = (-2147483648, 2147483647)
NO_WORD = (-1, 4) + FAR_OUTSIDE
NO_LENGTH = (-1, 21) + FAR_OUTSIDE

DONE = [0]
REFUSED = [-1]

BEGIN = [0]


def letters(q):
    return [1, q]


def word(i, row):
    return [2, i, len(row)] + list(row)


def overlaps(i, j):
    return [3, i, j]


def wait(i):
    return [4, i]


def without(i, n):
    return [5, i, n]


def firsts(i, n):
    return [6, i, n]


def before(i, j, n):
    return [7, i, j, n]


def chance(i, j):
    return [8, i, j]


def rival(i, most):
    return [9, i, most]


def line(*calls):
    return [number for call in calls for number in call]


def take_apart(told):
    parts = []
    place = 0
    while place < len(told):
        size = told[place]
        part = told[place + 1:place + 1 + size]
        if size < 1 or len(part) != size:
            raise AssertionError(f"answers that don't come apart at {place}: {told}")
        parts.append(part)
        place += 1 + size
    return parts


def ask(*calls):
    """The answers to these calls behind a begin, without the begin's own, a list each."""
    parts = take_apart(answers(line(BEGIN, *calls)))
    if len(parts) != len(calls) + 1:
        raise AssertionError(f"{len(calls) + 1} calls, but {len(parts)} answers")
    return parts[1:]


def ask_last(*calls):
    return ask(*calls)[-1]


# Shows a change of q by what each word is waited for, and of a word by its overlaps with the others.
ALL_WAITS = [wait(i) for i in range(4)]
ALL_OVERLAPS = [overlaps(i, j) for i in range(4) for j in range(4)]
LOOK = ALL_WAITS + ALL_OVERLAPS


# Four words that differ, for tests that a call changes none of them.
KEPT_WORDS = [letters(3), word(0, [2, 2]), word(1, [2, 1, 2]), word(2, [1, 2]), word(3, [0, 1])]


def look_behind(*calls):
    """What LOOK answers behind KEPT_WORDS and these calls."""
    return ask(*KEPT_WORDS, *calls, *LOOK)[len(KEPT_WORDS) + len(calls):]


def all_letter_0(q):
    """What LOOK answers when each of the four words is the letter 0."""
    return [[0, q]] * 4 + [[1]] * 16


def rows_of(q, size):
    return [list(row) for row in itertools.product(range(q), repeat=size)]


def rows_up_to(q, most):
    return [row for size in range(1, most + 1) for row in rows_of(q, size)]


def stands_in(a, b):
    return any(b[start:start + len(a)] == a for start in range(len(b)))


def is_at_end_for_the_first_time(a, row):
    return stands_in(a, row) and not stands_in(a, row[:-1])


def overlap_list(a, b):
    return [k for k in range(1, min(len(a), len(b)) + 1) if a[-k:] == b[:k]]


def conway(q, a, b):
    return sum(q ** k for k in overlap_list(a, b))
