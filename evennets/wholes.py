"""Whole numbers and fractions, without any errors."""

from math import gcd


def is_whole(value):
    """Whether a value, whatever it is, is a whole number: True and False are none."""
    return isinstance(value, int) and not isinstance(value, bool)


def is_within(value, least, most):
    """Whether a value, whatever it is, is a whole number from the least to the most."""
    return is_whole(value) and least <= value <= most


def is_fraction(value):
    """Whether a value, whatever it is, is a fraction: a reduced pair, the second number above 0."""
    if not isinstance(value, tuple) or len(value) != 2:
        return False
    above, below = value
    return is_whole(above) and is_whole(below) and below > 0 and gcd(above, below) == 1


def is_fraction_from_nought(value):
    """Whether a value, whatever it is, is a fraction from 0 on."""
    return is_fraction(value) and value[0] >= 0


def power(number, exponent):
    """The number to the power of an exponent from 0 on."""
    answer = 1
    for _ in range(exponent):
        answer = answer * number
    return answer


def reduced(above, below):
    """The fraction above / below, reduced, for a number below that is above 0."""
    common = gcd(above, below)
    return above // common, below // common


def plus(fraction, other):
    """The sum of two fractions."""
    return reduced(fraction[0] * other[1] + other[0] * fraction[1], fraction[1] * other[1])


def times_fraction(fraction, other):
    """The product of two fractions."""
    return reduced(fraction[0] * other[0], fraction[1] * other[1])


def total_of(fractions):
    """The sum of any number of fractions."""
    sums = [(0, 1)] + fractions
    # Neighbours are added first: great numbers below come together late that way, and seldom.
    while len(sums) > 1:
        pairs = [plus(one, other) for one, other in zip(sums[::2], sums[1::2])]
        sums = pairs + sums[2 * len(pairs):]
    return sums[0]


def prime_factors(number):
    """The primes that divide a number from 1 on, each once, ascending."""
    primes = []
    left = number
    prime = 2
    while prime * prime <= left:
        if left % prime == 0:
            primes.append(prime)
        while left % prime == 0:
            left = left // prime
        prime = prime + 1
    if left > 1:
        primes.append(left)
    return primes
