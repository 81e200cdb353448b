"""The desk: a line of calls comes in as one list of numbers, and so do the answers go out."""

from wordwait.words import Words

BEGIN = 0
LETTERS = 1
WORD = 2
OVERLAPS = 3
WAIT = 4
WITHOUT = 5
FIRSTS = 6
BEFORE = 7
CHANCE = 8
RIVAL = 9


class UnknownCall(ValueError):
    pass


class Line:
    # A place moves along the list, so that the list handed in is only ever read.
    def __init__(self, calls):
        self.calls = calls
        self.place = 0

    def is_read(self):
        return self.place >= len(self.calls)

    def take_number(self):
        number = self.calls[self.place]
        self.place = self.place + 1
        return number

    def take_row(self):
        size = self.take_number()
        start = self.place
        self.place = start + size
        return self.calls[start:start + size]


def answer_call(words, line):
    call = line.take_number()
    if call == BEGIN:
        return words.begin()
    if call == LETTERS:
        return words.letters(line.take_number())
    if call == WORD:
        i = line.take_number()
        return words.word(i, line.take_row())
    if call == OVERLAPS:
        i = line.take_number()
        return words.overlaps(i, line.take_number())
    if call == WAIT:
        return words.wait(line.take_number())
    if call == WITHOUT:
        i = line.take_number()
        return words.without(i, line.take_number())
    if call == FIRSTS:
        i = line.take_number()
        return words.firsts(i, line.take_number())
    if call == BEFORE:
        i = line.take_number()
        j = line.take_number()
        return words.before(i, j, line.take_number())
    if call == CHANCE:
        i = line.take_number()
        return words.chance(i, line.take_number())
    if call == RIVAL:
        i = line.take_number()
        return words.rival(i, line.take_number())
    raise UnknownCall(f"no call has the number {call}")


def answers(calls):
    words = Words()
    line = Line(calls)
    told = []
    while not line.is_read():
        answer = answer_call(words, line)
        told.append(len(answer))
        told.extend(answer)
    return told
