"""Nets, their starts, and the points and places that these make."""

from evennets.errors import InvalidNet, InvalidStart
from evennets.figures import are_rows, is_base, is_row
from evennets.limits import MOST_DEPTH, MOST_DIMENSIONS, MOST_WIDTH, check_few_starts
from evennets.linear import rows_times
from evennets.wholes import power, reduced


def is_table(base, value):
    """Whether a value, whatever it is, is a table of 1 to 12 rows of one length, 1 to 12."""
    return are_rows(base, value, MOST_DEPTH, MOST_WIDTH)


def is_of_size(table, depth, width):
    """Whether a table has so many rows of so many figures."""
    return len(table) == depth and len(table[0]) == width


def are_tables(base, value):
    """Whether a value, whatever it is, are one to six tables of one depth and one width."""
    if not isinstance(value, tuple) or not 1 <= len(value) <= MOST_DIMENSIONS:
        return False
    if not all([is_table(base, table) for table in value]):
        return False
    depth = len(value[0])
    width = len(value[0][0])
    return all([is_of_size(table, depth, width) for table in value])


def is_net(value):
    """Whether a value, whatever it is, is a net."""
    if not isinstance(value, tuple) or len(value) != 2:
        return False
    base, tables = value
    return is_base(base) and are_tables(base, tables)


def check_net(net):
    """Raise InvalidNet for what is no net."""
    if not is_net(net):
        raise InvalidNet(net)


def width_of(net):
    """How many figures a start of the net has."""
    return len(net[1][0][0])


def depth_of(net):
    """How many rows each table of the net has."""
    return len(net[1][0])


def is_start(net, value):
    """Whether a value, whatever it is, is a start of the net."""
    width = width_of(net)
    return is_row(net[0], value, width, width)


def check_start(net, start):
    """Raise InvalidStart for what is no start of the net."""
    if not is_start(net, start):
        raise InvalidStart(start)


def start_at(base, width, number):
    """The start that has the number."""
    figures = []
    for _ in range(width):
        figures.append(number % base)
        number = number // base
    return tuple(figures)


def point_at(net, start):
    """The point of a start, without any checks."""
    base, tables = net
    return tuple([rows_times(base, table, start) for table in tables])


def fraction_of(base, figures):
    """The sum of the figures times base^-1, base^-2, .., a reduced fraction."""
    above = 0
    for figure in figures:
        above = above * base + figure
    return reduced(above, power(base, len(figures)))


def point_of(net, start):
    """The point of the start: a tuple of figures for each dimension."""
    check_net(net)
    check_start(net, start)
    return point_at(net, start)


def place_of(net, start):
    """The place of the start: a reduced fraction for each dimension."""
    check_net(net)
    check_start(net, start)
    return tuple([fraction_of(net[0], figures) for figures in point_at(net, start)])


def points_of(net):
    """The points of all starts, by the numbers of these."""
    check_net(net)
    base = net[0]
    width = width_of(net)
    check_few_starts(base, width)
    return tuple([point_at(net, start_at(base, width, number)) for number in range(power(base, width))])
