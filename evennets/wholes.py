"""Whole numbers and fractions, without any errors."""

from math import gcd


def is_whole(value):
    """Whether a value, whatever it is, is a whole number: True and False are none."""
    return isinstance(value, int) and not isinstance(value, bool)


def power(number, exponent):
    """The number to the power of an exponent from 0 on."""
    answer = 1
    for _ in range(exponent):
        answer = answer * number
    return answer


def reduced(above, below):
    """The fraction above / below, reduced, for a number below that is above 0."""
    common = gcd(above, below)
    return above // common, below // common
