"""Boxes of a net, and the starts in them."""

from evennets.depths import rows_within
from evennets.errors import InvalidBox
from evennets.figures import is_row
from evennets.linear import columns, ties
from evennets.nets import check_net, depth_of, width_of
from evennets.wholes import power
from evennets.words import flat_row


def is_box(net, value):
    """Whether a value, whatever it is, is a box of the net."""
    base, tables = net
    if not isinstance(value, tuple) or len(value) != len(tables):
        return False
    depth = depth_of(net)
    return all([is_row(base, figures, 0, depth) for figures in value])


def check_box(net, box):
    """Raise InvalidBox for what is no box of the net."""
    if not is_box(net, box):
        raise InvalidBox(box)


def least_and_differences(net, box):
    """A pair of the least start in the box and the base in stairs of all differences, or None."""
    base = net[0]
    rows = rows_within(net, [len(figures) for figures in box])
    # A tie that begins with 1, at the box's figures, tells the opposites of a start in the box. As
    # the ties are in stairs, this start has 0 wherever a difference begins, so none is less.
    found = ties(base, (flat_row(box),) + columns(rows, width_of(net)))
    if len(found) == 0 or found[0][0] == 0:
        return None
    least = tuple([-figure % base for figure in found[0][1:]])
    return least, tuple([tie[1:] for tie in found[1:]])


def box_count(net, box):
    """How many starts are in the box."""
    check_net(net)
    check_box(net, box)
    found = least_and_differences(net, box)
    return 0 if found is None else power(net[0], len(found[1]))


def starts_in(net, box):
    """A pair of a start in the box and the base in stairs of the differences of all of them, or None."""
    check_net(net)
    check_box(net, box)
    return least_and_differences(net, box)


def first_start(net, box):
    """The least start in the box, as tuples are compared, None if there is none."""
    check_net(net)
    check_box(net, box)
    found = least_and_differences(net, box)
    return None if found is None else found[0]
