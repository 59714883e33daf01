"""Dual words of a net, the net of given dual words, and which points two nets share."""

from evennets.depths import all_rows, full_depths, least_uneven, tie_within
from evennets.errors import InvalidWords, TooMany, UnlikeNets
from evennets.figures import are_rows, check_base
from evennets.limits import MOST_DEPTH, MOST_DIMENSIONS, MOST_WIDTH
from evennets.linear import columns, rest, span_of, stairs, sum_of_rows, ties, unit_row
from evennets.nets import check_net, is_of_size, width_of
from evennets.words import check_word, flat_row, parted, shape_of_word, word_within


def check_words(base, words):
    """Raise InvalidWords for what are no words, one or more, all of one kind of net."""
    if not isinstance(words, tuple) or len(words) == 0:
        raise InvalidWords(None)
    for index, word in enumerate(words):
        if not are_rows(base, word, MOST_DIMENSIONS, MOST_DEPTH):
            raise InvalidWords(index)
        if not is_of_size(word, len(words[0]), len(words[0][0])):
            raise InvalidWords(index)


def are_like_nets(net, other):
    """Whether nets are of one base, as many dimensions and one depth."""
    return net[0] == other[0] and full_depths(net) == full_depths(other)


def check_alike(net, other):
    """Raise UnlikeNets for nets of unlike bases, numbers of dimensions or depths."""
    if not are_like_nets(net, other):
        raise UnlikeNets()


def check_both(net, other):
    """Raise the first error of two nets whose points are to be compared."""
    check_net(net)
    check_net(other)
    check_alike(net, other)


def word_sum(net, word):
    """The sum of all rows of the net, each times the word's figure: a start times it is what the word weighs."""
    return sum_of_rows(net[0], flat_row(word), all_rows(net))


def shape_of(net, word):
    """The shape of a word of the net, a dual one or not."""
    check_net(net)
    check_word(net, word)
    return shape_of_word(word)


def stair_weight(net, word):
    """The stair weight of a word of the net, a dual one or not."""
    check_net(net)
    check_word(net, word)
    return sum(shape_of_word(word))


def is_dual(net, word):
    """Whether a word of the net is a dual word of it."""
    check_net(net)
    check_word(net, word)
    return not any(word_sum(net, word))


def dual_base(net):
    """The base in stairs of the dual words, read as rows, () if nought alone is one."""
    check_net(net)
    return tuple([parted(tie, full_depths(net)) for tie in ties(net[0], all_rows(net))])


def least_word(net):
    """A dual word other than nought of the least stair weight, None if nought alone is one."""
    check_net(net)
    depths = least_uneven(net)
    return None if depths is None else word_within(net, depths, tie_within(net, depths))


def net_with_dual(base, words):
    """The net of the least width whose dual words are all sums of multiples of the words."""
    check_base(base)
    check_words(base, words)
    depths = (len(words[0][0]),) * len(words[0])
    size = sum(depths)
    known = stairs(base, [flat_row(word) for word in words])
    if size - len(known) > MOST_WIDTH:
        raise TooMany(size - len(known))
    across = ties(base, columns(known, size))
    if len(across) == 0:
        across = ((0,) * size,)
    return base, parted(columns(across, size), depths)


def outside_place(net, other):
    """The first place for which the start of `net` with 1 there alone has a point that is none of `other`, or None."""
    base = net[0]
    # Points are added as their starts are: those of `other` are all sums of its columns.
    span = span_of(base, columns(all_rows(other), width_of(other)))
    for place, column in enumerate(columns(all_rows(net), width_of(net))):
        if any(rest(base, span, column)):
            return place
    return None


def are_same_points(net, other):
    """Whether all points of each one of both nets are points of the other one."""
    check_both(net, other)
    return outside_place(net, other) is None and outside_place(other, net) is None


def is_inside(net, other):
    """Whether all points of `net` are points of `other`."""
    check_both(net, other)
    return outside_place(net, other) is None


def outside_start(net, other):
    """A start of `net` whose point is no point of `other`, None if there is none."""
    check_both(net, other)
    place = outside_place(net, other)
    return None if place is None else unit_row(width_of(net), place)


def outside_word(net, other):
    """The first one of the base of the dual words of `other` that is no dual word of `net`, None if all are."""
    for word in dual_base(other):
        if any(word_sum(net, word)):
            return word
    return None
