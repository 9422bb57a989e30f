"""Whole numbers, their common measure, and ratios of them."""

from modeyard.errors import NoRatio


def is_whole(value):
    # Python counts True and False among its ints.
    return isinstance(value, int) and not isinstance(value, bool)


def measure_of_two(one, other):
    one = abs(one)
    other = abs(other)
    while other != 0:
        rest = one % other
        one = other
        other = rest
    return one


def measure(numbers):
    common = 0
    for number in numbers:
        common = measure_of_two(common, number)
    return common


def lowest(numbers):
    common = measure(numbers)
    if common == 0:
        return list(numbers)
    return [number // common for number in numbers]


def ratio(top, bottom):
    # No number stands in these words: Python does not write out very long ones.
    if not is_whole(top) or not is_whole(bottom):
        raise NoRatio("a ratio is made of two whole numbers")
    if bottom == 0:
        raise NoRatio("the bottom of a ratio is not 0")
    common = measure_of_two(top, bottom)
    if bottom < 0:
        common = -common
    return (top // common, bottom // common)


def plus(one, other):
    return ratio(one[0] * other[1] + other[0] * one[1], one[1] * other[1])


def minus(one, other):
    return ratio(one[0] * other[1] - other[0] * one[1], one[1] * other[1])


def times(one, other):
    return ratio(one[0] * other[0], one[1] * other[1])


def over(one, other):
    # Where the other one is 0 the bottom comes to 0, so the refusal is ratio's own.
    return ratio(one[0] * other[1], one[1] * other[0])


def under(one, other):
    return one[0] * other[1] < other[0] * one[1]
