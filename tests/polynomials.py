"""Polynomials as the document tells them, slow and without the package: tuples of figures, the lowest power first."""

import random

from tests.samples import all_rows


def trimmed(row):
    row = list(row)
    while row and row[-1] == 0:
        row.pop()
    return tuple(row)


def times(base, one, other):
    found = [0] * (len(one) + len(other))
    for a, left in enumerate(one):
        for b, right in enumerate(other):
            found[a + b] = (found[a + b] + left * right) % base
    return trimmed(found)


def plus(base, one, other, factor=1):
    length = max(len(one), len(other))
    pairs = zip(one + (0,) * (length - len(one)), other + (0,) * (length - len(other)))
    return trimmed((a + factor * b) % base for a, b in pairs)


def divided(base, above, below):
    """The quotient and the rest, by taking the highest power away each time."""
    quotient = ()
    while len(above) >= len(below):
        figure = above[-1] * pow(below[-1], -1, base) % base
        part = (0,) * (len(above) - len(below)) + (figure,)
        quotient = plus(base, quotient, part)
        above = plus(base, above, times(base, part, below), -1)
    return quotient, above


def polynomials_of(base, degree):
    """All polynomials of a degree."""
    return [row for row in all_rows(base, degree + 1) if row[-1]]


def lesser_ones(base, figures):
    """All polynomials with up to so many figures, () among them."""
    return [trimmed(row) for row in all_rows(base, figures)]


def have_common_factor(base, one, other):
    """Whether a polynomial of a degree from 1 on divides both, by trying all."""
    for degree in range(1, min(len(one), len(other))):
        for factor in polynomials_of(base, degree):
            if not divided(base, one, factor)[1] and not divided(base, other, factor)[1]:
                return True
    return False


def power_of(base, polynomial, exponent, modulus):
    """The rest of a power, however great the exponent is."""
    answer, square = divided(base, (1,), modulus)[1], divided(base, polynomial, modulus)[1]
    while exponent:
        if exponent & 1:
            answer = divided(base, times(base, answer, square), modulus)[1]
        square = divided(base, times(base, square, square), modulus)[1]
        exponent >>= 1
    return answer


def are_tight(base, polynomials, powers):
    """Whether powers are tight, by the words of point 25."""
    if sum((len(one) - 1) * q for one, q in zip(polynomials, powers)) < 2:
        return False
    for at, modulus in enumerate(polynomials):
        product = divided(base, (1,), modulus)[1]
        for other, (one, q) in enumerate(zip(polynomials, powers)):
            if other != at:
                product = divided(base, times(base, product, power_of(base, one, q, modulus)), modulus)[1]
        if len(product) > 1:
            return False
    return True


def made_polynomial(seed, base, degree):
    chance = random.Random(repr((seed, base, degree)))
    return tuple(chance.randrange(base) for _ in range(degree)) + (chance.randrange(1, base),)


def made_apart(seed, base, degrees):
    """Polynomials of the degrees without common factors, as many of these as are found."""
    found = []
    for at, degree in enumerate(degrees):
        for more in range(40):
            one = made_polynomial((seed, at, more), base, degree)
            if not any(gcd_degree(base, one, other) for other in found):
                found.append(one)
                break
    return tuple(found)


def gcd_degree(base, one, other):
    """The degree of a greatest common divisor, by divisions with a rest."""
    while other:
        one, other = other, divided(base, one, other)[1]
    return len(one) - 1


def never_polynomials(base, least, most):
    """Values that are no polynomial of a degree from the least to the most."""
    return [
        (0,) * (least + 1), (1,) * (most + 2), (1,) * (most + 1) + (0,), (1,) * least + (0,), (1,) * least, (base,) * (least + 1),
        (0,) * least + (base,), (-1,) + (1,) * least, (1,) * least + (-1,), (True,) + (1,) * least, (0,) * least + (True,),
        (False,) + (1,) * least, (None,) + (1,) * least, ("1",) * (least + 1), [1] * (least + 1), "1" * (least + 1),
        b"11", ((1,), (1,)), ((1, 1),), {0: 1, 1: 1}, (1,) * 60, (0,) * 60, (10 ** 399,) * (least + 1), range(2)]
