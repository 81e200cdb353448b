"""Writes calls down as the list that answers takes, and takes its answers apart again."""

from wordwait.desk import answers

FAR_OUTSIDE = (-2147483648, 2147483647)
NO_WORD = (-1, 4) + FAR_OUTSIDE

DONE = [0]
REFUSED = [-1]

BEGIN = [0]


def letters(q):
    return [1, q]


def word(i, row):
    return [2, i, len(row)] + list(row)


def overlaps(i, j):
    return [3, i, j]


def wait(i):
    return [4, i]


def line(*calls):
    return [number for call in calls for number in call]


def take_apart(told):
    parts = []
    place = 0
    while place < len(told):
        size = told[place]
        part = told[place + 1:place + 1 + size]
        if size < 1 or len(part) != size:
            raise AssertionError(f"answers that don't come apart at {place}: {told}")
        parts.append(part)
        place += 1 + size
    return parts


def ask(*calls):
    """The answers to these calls behind a begin, without the begin's own, a list each."""
    parts = take_apart(answers(line(BEGIN, *calls)))
    if len(parts) != len(calls) + 1:
        raise AssertionError(f"{len(calls) + 1} calls, but {len(parts)} answers")
    return parts[1:]


def ask_last(*calls):
    return ask(*calls)[-1]


# Shows a change of q by what each word is waited for, and of a word by its overlaps with the others.
ALL_WAITS = [wait(i) for i in range(4)]
ALL_OVERLAPS = [overlaps(i, j) for i in range(4) for j in range(4)]
LOOK = ALL_WAITS + ALL_OVERLAPS


def all_letter_0(q):
    """What LOOK answers when each of the four words is the letter 0."""
    return [[0, q]] * 4 + [[1]] * 16
