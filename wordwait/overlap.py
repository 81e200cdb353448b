"""How words overlap, and Conway's number, which is made of the overlaps."""


def power(base, exponent):
    product = 1
    for step in range(exponent):
        product = product * base
    return product


def overlaps_of(a, b):
    longest = min(len(a), len(b))
    return [k for k in range(1, longest + 1) if a[len(a) - k:] == b[:k]]


def overlap_bits(a, b):
    return sum([power(2, k - 1) for k in overlaps_of(a, b)])


def conway_number(q, a, b):
    return sum([power(q, k) for k in overlaps_of(a, b)])
