"""How likely one word comes before another, and which is the best against one."""

from wordwait.overlap import conway_number


def stands_in(a, b):
    return any([b[start:start + len(a)] == a for start in range(len(b) - len(a) + 1)])


def common_divisor(a, b):
    while b > 0:
        rest = a % b
        a = b
        b = rest
    return a


def chance_before(q, a, b):
    """How likely a comes before b, where neither stands in the other: so many of so many, in lowest terms."""
    x = conway_number(q, b, b) - conway_number(q, b, a)
    y = conway_number(q, a, a) - conway_number(q, a, b)
    divisor = common_divisor(x, x + y)
    return [x // divisor, (x + y) // divisor]


def is_likelier(chance, other):
    return chance[0] * other[1] > other[0] * chance[1]


def rivals_to_try(q, word):
    # Six letters make over a million words of eight. But whatever most likely comes before a word is some letter and
    # the word without its last: going through all words of 1 to 8 letters, for each q, has shown no other.
    rows = [[letter] + word[:len(word) - 1] for letter in range(q)]
    return [row for row in rows if row != word]


def best_rival(q, word):
    best = []
    best_chance = [0, 1]
    for rival in rivals_to_try(q, word):
        chance = chance_before(q, rival, word)
        # Of equally likely ones the first stays, and they are tried in their order.
        if is_likelier(chance, best_chance):
            best = rival
            best_chance = chance
    return best
