"""New nets of old ones."""

from evennets.duals import check_alike
from evennets.errors import (
    InvalidIndex, InvalidRows, InvalidTable, InvalidTables, NotEven, NotRegular, TooMany, UnlikeNets)
from evennets.figures import is_row
from evennets.limits import MOST_WIDTH, check_few_dimensions, check_number
from evennets.linear import columns, multiple, rank, rows_times, sum_of_rows, ties
from evennets.nets import check_net, depth_of, width_of
from evennets.wholes import is_within


def check_small(dimensions, width):
    """Raise TooMany for more dimensions, then for a greater width, than nets have."""
    check_few_dimensions(dimensions)
    if width > MOST_WIDTH:
        raise TooMany(width)


def check_dimensions(net, dimensions):
    """Raise InvalidRows for what are no indexes of dimensions, one or more, each once."""
    if not isinstance(dimensions, tuple) or len(dimensions) == 0:
        raise InvalidRows(None)
    for index, one in enumerate(dimensions):
        if not is_within(one, 0, len(net[1]) - 1) or one in dimensions[:index]:
            raise InvalidRows(index)


def is_square(base, value, size):
    """Whether a value, whatever it is, are as many rows of figures as each of them has."""
    if not isinstance(value, tuple) or len(value) != size:
        return False
    return all([is_row(base, row, size, size) for row in value])


def is_lower(base, value, size):
    """Whether a value, whatever it is, is a lower table of so many rows."""
    if not is_square(base, value, size):
        return False
    return all([row[index] != 0 and not any(row[index + 1:]) for index, row in enumerate(value)])


def check_lowers(net, lowers):
    """Raise InvalidTables for what are no lower tables, one for each dimension."""
    if not isinstance(lowers, tuple) or len(lowers) != len(net[1]):
        raise InvalidTables(None)
    for index, lower in enumerate(lowers):
        if not is_lower(net[0], lower, depth_of(net)):
            raise InvalidTables(index)


def behind(table, many):
    """The table with so many columns of noughts behind it."""
    return tuple([row + (0,) * many for row in table])


def ahead(table, many):
    """The table with so many columns of noughts ahead of it."""
    return tuple([(0,) * many + row for row in table])


def put_together(net, other):
    """The net with the dimensions of both, a start of which is one of the first and one of the other."""
    check_net(net)
    check_net(other)
    base, tables = net
    if base != other[0] or depth_of(net) != depth_of(other):
        raise UnlikeNets()
    width = width_of(net)
    further = width_of(other)
    check_small(len(tables) + len(other[1]), width + further)
    first = tuple([behind(table, further) for table in tables])
    return base, first + tuple([ahead(table, width) for table in other[1]])


def stacked(net, other):
    """The net whose dual words are (u, u + v), u from those of the first net and v from those of the other one."""
    check_net(net)
    check_net(other)
    check_alike(net, other)
    base, tables = net
    width = width_of(net)
    check_small(2 * len(tables), width + width_of(other))
    first = [
        tuple([row + tuple(multiple(base, base - 1, less)) for row, less in zip(table, lesser)])
        for table, lesser in zip(tables, other[1])]
    return base, tuple(first) + tuple([ahead(table, width) for table in other[1]])


def with_dimensions(net, dimensions):
    """The net of the told dimensions, in their order."""
    check_net(net)
    check_dimensions(net, dimensions)
    return net[0], tuple([net[1][index] for index in dimensions])


def cut_depth(net, depth):
    """The net of the first rows of all tables, as many as told."""
    check_net(net)
    check_number(depth, 1, depth_of(net))
    return net[0], tuple([table[:depth] for table in net[1]])


def stretched(net, dimension, number):
    """The net of the starts whose points begin, in the dimension, with so many noughts, these left out."""
    check_net(net)
    base, tables = net
    if not is_within(dimension, 0, len(tables) - 1):
        raise InvalidIndex(dimension)
    check_number(number, 0, min(depth_of(net), width_of(net)) - 1)
    bound = tables[dimension][:number]
    if rank(base, bound) < number:
        raise NotEven()
    starts = ties(base, columns(bound, width_of(net)))
    left = depth_of(net) - number
    kept = [table[number:] if index == dimension else table[:left] for index, table in enumerate(tables)]
    return base, tuple([tuple([rows_times(base, starts, row) for row in table]) for table in kept])


def scrambled(net, lowers):
    """The net whose tables are the lower tables times its tables."""
    check_net(net)
    check_lowers(net, lowers)
    base, tables = net
    return base, tuple([
        tuple([sum_of_rows(base, row, table) for row in lower]) for lower, table in zip(lowers, tables)])


def led_starts(net, table):
    """The net whose rows are each multiplied by a regular table."""
    check_net(net)
    base, tables = net
    width = width_of(net)
    if not is_square(base, table, width):
        raise InvalidTable(table)
    if rank(base, table) < width:
        raise NotRegular()
    return base, tuple([tuple([sum_of_rows(base, row, table) for row in one]) for one in tables])
