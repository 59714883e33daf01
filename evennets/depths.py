"""Depths of a net: the first rows of its tables, how free they are, and which depths are even."""

from evennets.errors import InvalidDepths, InvalidShape
from evennets.linear import rank, ties, widened
from evennets.nets import depth_of
from evennets.wholes import is_whole


def are_depths(net, value):
    """Whether a value, whatever it is, are depths of the net."""
    if not isinstance(value, tuple) or len(value) != len(net[1]):
        return False
    depth = depth_of(net)
    return all([is_whole(one) and 0 <= one <= depth for one in value])


def check_depths(net, depths):
    """Raise InvalidDepths for what are no depths of the net."""
    if not are_depths(net, depths):
        raise InvalidDepths(depths)


def check_shape(net, shape):
    """Raise InvalidShape for what is no shape and no lead: these are just such tuples as depths."""
    if not are_depths(net, shape):
        raise InvalidShape(shape)


def are_within(lesser, depths):
    """Whether depths are within others."""
    return all([one <= most for one, most in zip(lesser, depths)])


def full_depths(net):
    """The depths that let all rows of the net in."""
    return (depth_of(net),) * len(net[1])


def rows_within(net, depths):
    """The first rows of the tables, as many of each as the depths tell, dimension by dimension."""
    return tuple([row for table, many in zip(net[1], depths) for row in table[:many]])


def all_rows(net):
    """All rows of the tables, dimension by dimension."""
    return rows_within(net, full_depths(net))


def rank_within(net, depths):
    """The rank of the rows within the depths."""
    return rank(net[0], rows_within(net, depths))


def tie_within(net, depths):
    """Any tie, not all 0, of the rows within the depths, None if these are free."""
    found = ties(net[0], rows_within(net, depths))
    return found[0] if len(found) > 0 else None


def spans_over(base, span, table):
    """The spans of a span's rows and the first 0, 1, 2, .. rows of a table."""
    found = [span]
    for row in table:
        found.append(widened(base, found[-1], row))
    return found


def free_spans_over(base, span, table):
    """The spans as `spans_over` tells them, as long as each row of the table is a free one more."""
    found = [span]
    for row in table:
        wider = widened(base, found[-1], row)
        if len(wider) == len(found[-1]):
            break
        found.append(wider)
    return found


def spans_by_depths(net, spans_of_table):
    """The spans of the rows within depths, by these, ascending; how far to go is `spans_of_table`'s to tell."""
    base, tables = net
    found = {(): ()}
    for table in tables:
        longer = {}
        for depths, span in found.items():
            for many, wider in enumerate(spans_of_table(base, span, table)):
                longer[depths + (many,)] = wider
        found = longer
    return found


def ranks_by_depths(net):
    """The ranks of the rows within all depths, by these, ascending."""
    return {depths: len(span) for depths, span in spans_by_depths(net, spans_over).items()}


def even_depths(net):
    """The spans of the rows within all even depths, by these, ascending."""
    return spans_by_depths(net, free_spans_over)


def deeper_ones(net, depths):
    """The depths that are by one greater than these in one dimension."""
    depth = depth_of(net)
    return [depths[:at] + (one + 1,) + depths[at + 1:] for at, one in enumerate(depths) if one < depth]


def least_uneven(net):
    """Any depths of the least size that are not even, None if all are even."""
    even = even_depths(net)
    least = None
    # Less one in some dimension uneven depths of the least size are even.
    for depths in even:
        for deeper in deeper_ones(net, depths):
            if deeper not in even and (least is None or sum(deeper) < sum(least)):
                least = deeper
    return least
