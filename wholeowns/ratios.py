"""Fractions: pairs of an upper and a lower number with nothing in common, the lower one 1 or more."""

ZERO = (0, 1)
ONE = (1, 1)
MOST_LOWER = 100


def common_divisor(first, second):
    while second != 0:
        rest = first % second
        first = second
        second = rest
    return first


# Every lower number that is handed to it is above 0, so the divisor is too, and the signs stay right.
def ratio(upper, lower):
    divisor = common_divisor(upper, lower)
    return (upper // divisor, lower // divisor)


def whole(number):
    return (number, 1)


# Holding, selling and the quorum take a fraction by the same rule, before it may be made into one.
def is_proper(a, b):
    return 1 <= b <= MOST_LOWER and a <= b


def plus(one, other):
    return ratio(one[0] * other[1] + other[0] * one[1], one[1] * other[1])


def minus(one, other):
    return ratio(one[0] * other[1] - other[0] * one[1], one[1] * other[1])


def times(one, other):
    return ratio(one[0] * other[0], one[1] * other[1])


# The other one is above 0: only what is left beside a part below 1 is divided by.
def divided(one, other):
    return ratio(one[0] * other[1], one[1] * other[0])


def total(fractions):
    found = ZERO
    for fraction in fractions:
        found = plus(found, fraction)
    return found


def is_above(one, other):
    return one[0] * other[1] > other[0] * one[1]


def lesser(one, other):
    return other if is_above(one, other) else one
