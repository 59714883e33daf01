"""Powers of a polynomial that come round, modulo another one."""

from math import lcm

from evennets.polynomials import power_modulo
from evennets.wholes import power, prime_factors


def sure_exponent(base, degree):
    """An exponent that makes 1 of all polynomials without a common factor with any modulus of the degree."""
    exponent = 1
    for one in range(1, degree + 1):
        exponent = lcm(exponent, power(base, one) - 1)
    # That is enough for moduli without a factor that divides them twice; to the power of the base
    # a sum is the sum of the powers, so that what is left is divided by the factor as often more.
    often = 1
    while often < degree:
        often = often * base
    return exponent * often


def exponent_primes(base, degree):
    """The primes that divide the sure exponent, perhaps some of them told twice, and the base."""
    primes = [base]
    for one in range(1, degree + 1):
        primes.extend(prime_factors(power(base, one) - 1))
    return primes


def exponent_to_figure(base, polynomial, modulus):
    """The least exponent from 1 on that makes of the polynomial a figure, modulo the modulus.

    The two have no common factor, and the modulus is of a degree from 1 on.
    """
    degree = len(modulus) - 1
    exponent = sure_exponent(base, degree)
    # All exponents that do are multiples of the least one.
    for prime in exponent_primes(base, degree):
        while exponent % prime == 0 and len(power_modulo(base, polynomial, exponent // prime, modulus)) == 1:
            exponent = exponent // prime
    return exponent


def figure_round(base, figure):
    """The least exponent from 1 on that makes 1 of a figure other than 0."""
    exponent = 1
    answer = figure
    while answer != 1:
        answer = answer * figure % base
        exponent = exponent + 1
    return exponent


def round_length(base, modulus):
    """The least n from 1 on with x^n - 1 divided by the modulus, a polynomial that is not 0 at 0."""
    if len(modulus) == 1:
        return 1
    exponent = exponent_to_figure(base, (0, 1), modulus)
    return exponent * figure_round(base, power_modulo(base, (0, 1), exponent, modulus)[0])
