"""Nets of endless sequences: rows of polynomials, Pascal nets and turned tables."""

from math import comb, lcm

from evennets.errors import InvalidPolynomial, InvalidPolynomials
from evennets.figures import check_base
from evennets.limits import MOST_DIMENSIONS, check_depth, check_few_dimensions, check_number, check_width
from evennets.linear import unit_row
from evennets.nets import check_net, depth_of, width_of
from evennets.orders import exponent_to_figure
from evennets.polynomials import are_apart, is_polynomial, modulo, power_modulo, quotient_figures, times
from evennets.wholes import is_within, power

MOST_DEGREE = 6
MOST_PLACE = 200


def is_factor(base, value):
    """Whether a value, whatever it is, is a polynomial of a degree from 1 to 6."""
    return is_polynomial(base, value, 2, MOST_DEGREE + 1)


def wrong_polynomial(base, polynomials):
    """The index of the first element of a tuple that is wrong, by itself or beside those before it, None if none is."""
    for index, one in enumerate(polynomials):
        if index == MOST_DIMENSIONS or not is_factor(base, one):
            return index
        if not all([are_apart(base, one, other) for other in polynomials[:index]]):
            return index
    return None


def are_polynomials(base, value):
    """Whether a value, whatever it is, are polynomials over the base as [24] wants them."""
    return isinstance(value, tuple) and len(value) > 0 and wrong_polynomial(base, value) is None


def check_polynomials(base, polynomials):
    """Raise InvalidPolynomials for what are no polynomials as [24] wants them."""
    if not isinstance(polynomials, tuple) or len(polynomials) == 0:
        raise InvalidPolynomials(None)
    index = wrong_polynomial(base, polynomials)
    if index is not None:
        raise InvalidPolynomials(index)


def row_of(base, polynomial, place, width):
    """The row of a polynomial at a place, without any checks."""
    degree = len(polynomial) - 1
    often = (place - 1) // degree
    below = polynomial
    for _ in range(often):
        below = times(base, below, polynomial)
    return quotient_figures(base, unit_row(degree, (place - 1) % degree), below, width)


def row_at(base, polynomial, place, width):
    """The first figures, as many as the width, of the row of the polynomial at the place."""
    check_base(base)
    if not is_factor(base, polynomial):
        raise InvalidPolynomial(polynomial)
    check_number(place, 1, MOST_PLACE)
    check_number(width, 1, MOST_PLACE)
    return row_of(base, polynomial, place, width)


def sequence_net(base, polynomials, depth, width):
    """The net of the polynomials: for each of them the rows at the first places."""
    check_base(base)
    check_polynomials(base, polynomials)
    check_depth(depth)
    check_width(width)
    return base, tuple([
        tuple([row_of(base, one, place, width) for place in range(1, depth + 1)]) for one in polynomials])


def sure_loss(base, polynomials):
    """The sum of the degrees, each less 1."""
    check_base(base)
    check_polynomials(base, polynomials)
    return sum([len(one) - 2 for one in polynomials])


def degree_of_powers(polynomials, powers):
    """The degree of the product of all polynomials, each to its power."""
    return sum([(len(one) - 1) * often for one, often in zip(polynomials, powers)])


def other_powers(base, polynomials, powers, index):
    """The product of all polynomials but one, each to its power, modulo that one."""
    modulus = polynomials[index]
    answer = (1,)
    for at, one in enumerate(polynomials):
        if at != index:
            further = power_modulo(base, one, powers[at], modulus)
            answer = modulo(base, times(base, answer, further), modulus)
    return answer


def are_tight(base, polynomials, powers):
    """Whether whole numbers from 1 on, one for each polynomial, are tight powers."""
    if degree_of_powers(polynomials, powers) < 2:
        return False
    return all([len(other_powers(base, polynomials, powers, index)) == 1 for index in range(len(polynomials))])


def tight_powers(base, polynomials):
    """Powers, one for each polynomial, that are tight."""
    check_base(base)
    check_polynomials(base, polynomials)
    powers = []
    for at, one in enumerate(polynomials):
        # To a power that makes a figure of it modulo each other one it may stand in each product.
        often = 1
        for index, other in enumerate(polynomials):
            if index != at:
                often = lcm(often, exponent_to_figure(base, one, other))
        powers.append(often)
    if degree_of_powers(polynomials, powers) < 2:
        return (2,)
    return tuple(powers)


def pascal_row(base, index, place, width):
    """Row `place` of the table at an index of a Pascal net."""
    below = place - 1
    # At column below the power is the zeroth one, which is 1 for 0, too.
    figures = [comb(column, below) * power(index, column - below) % base for column in range(below, width)]
    return (0,) * below + tuple(figures)


def pascal_net(base, dimensions, width):
    """The Pascal net of a width, with up to as many dimensions as the base has figures."""
    check_base(base)
    check_number(dimensions, 1, min(base, MOST_DIMENSIONS))
    check_width(width)
    return base, tuple([
        tuple([pascal_row(base, index, place, width) for place in range(1, width + 1)]) for index in range(dimensions)])


def narrowed(net, width):
    """The net with the first columns alone, as many as told."""
    check_net(net)
    check_number(width, 1, width_of(net))
    return net[0], tuple([tuple([row[:width] for row in table]) for table in net[1]])


def with_turned(net):
    """The net with a turned table behind."""
    check_net(net)
    base, tables = net
    check_few_dimensions(len(tables) + 1)
    width = width_of(net)
    # A place below 0 is none of the row's.
    turned = tuple([unit_row(width, width - place) for place in range(1, depth_of(net) + 1)])
    return base, tables + (turned,)
