"""How many dual words have a shape, and how many starts have a lead."""

from evennets.depths import check_depths, check_shape, full_depths, rank_within, ranks_by_depths
from evennets.limits import check_few
from evennets.nets import check_net, depth_of, width_of
from evennets.wholes import power


def check_few_depths(net):
    """Raise TooMany for a net with more than 4096 depths."""
    check_few(power(depth_of(net) + 1, len(net[1])))


def signed_depths(choices):
    """All depths made of one choice for each dimension, each with its sign.

    A choice is one depth, or two, the second one of which turns the sign.
    """
    found = [((), 1)]
    for choice in choices:
        found = [
            (depths + (one,), sign if index == 0 else -sign)
            for depths, sign in found for index, one in enumerate(choice)]
    return found


def below_shape(shape):
    """The depths of just this shape are those of the shape less those that end earlier in some dimension."""
    return signed_depths([(one, one - 1) if one > 0 else (0,) for one in shape])


def above_lead(net, lead):
    """The depths of just this lead are those of the lead less those that end later in some dimension."""
    depth = depth_of(net)
    return signed_depths([(one, one + 1) if one < depth else (one,) for one in lead])


def many_words(net, depths, rank):
    """How many dual words are within depths of which the rank is told."""
    return power(net[0], sum(depths) - rank)


def many_starts(net, rank):
    """How many starts have points that begin with noughts at depths of which the rank is told."""
    return power(net[0], width_of(net) - rank)


def words_within(net, depths):
    """How many dual words are within the depths."""
    check_net(net)
    check_depths(net, depths)
    return many_words(net, depths, rank_within(net, depths))


def begun_with_noughts(net, depths):
    """How many starts have points that begin with at least as many noughts as the depths tell."""
    check_net(net)
    check_depths(net, depths)
    return many_starts(net, rank_within(net, depths))


def shape_count(net, shape):
    """How many dual words have just this shape."""
    check_net(net)
    check_shape(net, shape)
    return sum([sign * words_within(net, depths) for depths, sign in below_shape(shape)])


def lead_count(net, lead):
    """How many starts have just this lead."""
    check_net(net)
    check_shape(net, lead)
    return sum([sign * begun_with_noughts(net, depths) for depths, sign in above_lead(net, lead)])


def shape_counts(net):
    """All pairs of a shape and the number, other than 0, of the dual words of it, ascending."""
    check_net(net)
    check_few_depths(net)
    words = {depths: many_words(net, depths, rank) for depths, rank in ranks_by_depths(net).items()}
    counts = [(shape, sum([sign * words[depths] for depths, sign in below_shape(shape)])) for shape in words]
    return tuple([(shape, number) for shape, number in counts if number != 0])


def lead_counts(net):
    """All pairs of a lead and the number, other than 0, of the starts of it, ascending."""
    check_net(net)
    check_few_depths(net)
    starts = {depths: many_starts(net, rank) for depths, rank in ranks_by_depths(net).items()}
    counts = [(lead, sum([sign * starts[depths] for depths, sign in above_lead(net, lead)])) for lead in starts]
    return tuple([(lead, number) for lead, number in counts if number != 0])


def weight_counts(net):
    """The numbers of dual words of the stair weights from 0 to the number of all rows."""
    known = shape_counts(net)
    counts = [0] * (sum(full_depths(net)) + 1)
    for shape, number in known:
        counts[sum(shape)] += number
    return tuple(counts)
