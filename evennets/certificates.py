"""Claims and the papers that show them, each pair one that the checker accepts."""

from evennets.bounds import barred_by, check_sizes, greedy_net
from evennets.duals import is_dual, is_inside, least_word, outside_word, word_sum
from evennets.evens import empty_box, most_strength, strength
from evennets.generators import check_streams, first_unlike, parity_of
from evennets.limits import check_few_starts, check_number
from evennets.linear import first_place, unit_row
from evennets.nets import check_net, width_of
from evennets.waves import error_square


def certify_depths(net, depths):
    """Whether the depths are even: a claim and its paper."""
    paper = empty_box(net, depths)
    if paper is None:
        return ("even", net, depths), ()
    return ("uneven", net, depths), paper


def certify_strength(net, number):
    """Whether the strength is the number at least: a claim and its paper."""
    check_net(net)
    check_number(number, 0, most_strength(net))
    if strength(net) >= number:
        return ("strength", net, number), ()
    return ("weakness", net, number), least_word(net)


def certify_word(net, word):
    """Whether the word is a dual word: a claim and its paper."""
    if is_dual(net, word):
        return ("dual", net, word), ()
    return ("no dual", net, word), unit_row(width_of(net), first_place(word_sum(net, word)))


def certify_inside(net, other):
    """Whether all points of `net` are points of `other`: a claim and its paper."""
    if is_inside(net, other):
        return ("inside", net, other), ()
    return ("outside", net, other), outside_word(net, other)


def certify_size(base, width, dimensions, size):
    """Whether there is such a net: a claim and its paper, None if nothing bars it and none is grown."""
    check_sizes(base, width, dimensions, size)
    check_few_starts(base, width)
    reason = barred_by(base, width, dimensions, size)
    if reason is not None:
        return ("barred", base, width, dimensions, size), reason
    net = greedy_net(base, width, dimensions, size)
    return None if net is None else (("found", base, width, dimensions, size), net)


def certify_error(net, gammas):
    """What the error square is: a claim and its paper."""
    return ("error square", net, gammas, error_square(net, gammas)), ()


def certify_windows(generator, windows, figures):
    """Whether the figures of the windows have a tie: a claim and its paper."""
    tie = parity_of(generator, windows, figures)
    if tie is None:
        return ("free windows", generator, windows, figures), ()
    return ("tied windows", generator, windows, figures), tie


def certify_streams(generator, start, other, begin):
    """Whether both starts have the same stream: a claim and its paper."""
    check_streams(generator, start, other, begin)
    index = first_unlike(generator, start, other, begin)
    if index is None:
        return ("one stream", generator, start, other, begin), ()
    return ("two streams", generator, start, other, begin), index
