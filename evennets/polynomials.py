"""Polynomials over a base, without any errors: their figures, the lowest power first, () for nought."""

from evennets.figures import is_row
from evennets.linear import inverse


def is_polynomial(base, value, least, most):
    """Whether a value, whatever it is, is a polynomial of `least` to `most` figures, `least` from 1 on."""
    return is_row(base, value, least, most) and value[-1] != 0


def trimmed(row):
    """The polynomial with these figures, the noughts at the end left out."""
    many = len(row)
    while many > 0 and row[many - 1] == 0:
        many = many - 1
    return tuple(row[:many])


def sum_of(base, one, other):
    """The sum of two polynomials."""
    length = max(len(one), len(other))
    left = one + (0,) * (length - len(one))
    right = other + (0,) * (length - len(other))
    return trimmed([(figure + further) % base for figure, further in zip(left, right)])


def times(base, one, other):
    """The product of two polynomials."""
    found = [0] * (len(one) + len(other))
    for place, figure in enumerate(one):
        for further, another in enumerate(other):
            found[place + further] += figure * another
    return trimmed([figure % base for figure in found])


def divided(base, above, below):
    """The pair of the quotient and the rest of a division by a polynomial other than nought."""
    left = list(above)
    last = len(below) - 1
    factor = inverse(base, below[last])
    many = max(0, len(above) - last)
    quotient = [0] * many
    for place in range(many - 1, -1, -1):
        figure = left[place + last] * factor % base
        quotient[place] = figure
        for further, one in enumerate(below):
            left[place + further] = (left[place + further] - figure * one) % base
    return trimmed(quotient), trimmed(left)


def modulo(base, polynomial, modulus):
    """The rest that a division by the modulus leaves."""
    return divided(base, polynomial, modulus)[1]


def chain_of(base, above, below):
    """The pair of the quotients of the chain, in order, and of what divided last: a greatest common divisor."""
    quotients = []
    while len(below) > 0:
        quotient, left = divided(base, above, below)
        quotients.append(quotient)
        above, below = below, left
    return quotients, above


def are_apart(base, one, other):
    """Whether two polynomials, not both nought, have no common factor."""
    return len(chain_of(base, one, other)[1]) == 1


def power_modulo(base, polynomial, exponent, modulus):
    """What a division by the modulus leaves of the polynomial to the power of an exponent from 0 on."""
    answer = modulo(base, (1,), modulus)
    square = modulo(base, polynomial, modulus)
    left = exponent
    while left > 0:
        if left % 2 == 1:
            answer = modulo(base, times(base, answer, square), modulus)
        square = modulo(base, times(base, square, square), modulus)
        left = left // 2
    return answer


def quotient_figures(base, above, below, many):
    """The first figures of above / below in falling powers of x, for fewer figures above than below."""
    degree = len(below) - 1
    factor = inverse(base, below[degree])
    left = list(above) + [0] * (degree - len(above))
    figures = []
    for _ in range(many):
        # Of x times what is left, the figure is how many times the divisor goes into it.
        figure = left[-1] * factor % base
        figures.append(figure)
        left = [(one - figure * less) % base for one, less in zip([0] + left[:-1], below)]
    return tuple(figures)
