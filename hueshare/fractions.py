"""Fractions: tuples (a, b) of whole numbers, told in lowest terms."""

from hueshare.webs import is_whole

MOST_BOTTOM = 1000000000


def greatest_divisor(one, other):
    while other:
        rest = one % other
        one = other
        other = rest
    return one


def lowest(a, b):
    by = greatest_divisor(abs(a), b)
    return (a // by, b // by)


def plus(one, other):
    return lowest(one[0] * other[1] + other[0] * one[1], one[1] * other[1])


def times(one, other):
    return lowest(one[0] * other[0], one[1] * other[1])


def is_less(one, other):
    return one[0] * other[1] < other[0] * one[1]


def is_fraction(thing):
    # Anybody's fraction, in lowest terms or not.
    if not isinstance(thing, tuple) or len(thing) != 2 or not is_whole(thing[0]) or not is_whole(thing[1]):
        return False
    return thing[0] >= 0 and 1 <= thing[1] <= MOST_BOTTOM


def sum_of(fractions):
    # Anybody's fractions may sum to numbers of thousands of figures, for which lowest terms are slow to find.
    # So the sum is over the least number that each b divides, and not in lowest terms.
    a = 0
    b = 1
    for top, bottom in fractions:
        by = bottom // greatest_divisor(b, bottom)
        a = a * by + top * (b * by // bottom)
        b = b * by
    return (a, b)
