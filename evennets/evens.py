"""Even depths of a net, its strength and its loss."""

from evennets.depths import check_depths, deeper_ones, even_depths, full_depths, least_uneven, rank_within, tie_within
from evennets.linear import first_place, unit_row
from evennets.nets import check_net, width_of
from evennets.words import parted, word_within


def is_even(net, depths):
    """Whether each box of the depths holds as many starts."""
    check_net(net)
    check_depths(net, depths)
    return rank_within(net, depths) == sum(depths)


def empty_box(net, depths):
    """A pair of a dual word within the depths and a box of them that it shows to be empty, None if they are even."""
    check_net(net)
    check_depths(net, depths)
    tie = tie_within(net, depths)
    if tie is None:
        return None
    # With 1 at one place of the word that has not 0, and 0 at all others, the sum is not 0.
    box = parted(unit_row(len(tie), first_place(tie)), depths)
    return word_within(net, depths, tie), box


def most_strength(net):
    """The width of the net, or the number of all its rows if that is less: no strength is greater."""
    return min(width_of(net), sum(full_depths(net)))


def strength(net):
    """The greatest size, up to the width and the number of all rows, all depths of which are even."""
    check_net(net)
    uneven = least_uneven(net)
    return sum(full_depths(net)) if uneven is None else sum(uneven) - 1


def loss(net):
    """The width less the strength."""
    check_net(net)
    return width_of(net) - strength(net)


def even_tops(net):
    """The even depths that are within no other even ones, ascending."""
    check_net(net)
    even = even_depths(net)
    return tuple([depths for depths in even if not any([deeper in even for deeper in deeper_ones(net, depths)])])
