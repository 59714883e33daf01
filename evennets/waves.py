"""Words as waves, mean errors of functions, and what is left of these over all scrambles."""

from evennets.depths import are_depths, check_depths, full_depths, rows_within
from evennets.duals import word_sum
from evennets.errors import InvalidValues, InvalidWeights
from evennets.limits import check_few, check_few_starts
from evennets.linear import columns, first_place, row_sums
from evennets.nets import check_net, depth_of, width_of
from evennets.shapes import shape_count
from evennets.wholes import is_fraction, is_fraction_from_nought, power, reduced, times_fraction, total_of
from evennets.words import check_word, parted, words_of_shape


def check_values(boxes, values):
    """Raise the first error of what are no fractions, one for each of so many boxes."""
    check_few(boxes)
    if not isinstance(values, tuple) or len(values) != boxes:
        raise InvalidValues(None)
    for index, value in enumerate(values):
        if not is_fraction(value):
            raise InvalidValues(index)


def is_for_dimensions(net, value):
    """Whether a value, whatever it is, is a tuple of one value for each dimension of the net."""
    return isinstance(value, tuple) and len(value) == len(net[1])


def are_gammas(net, value):
    """Whether a value, whatever it is, are fractions from 0 on, one for each dimension."""
    return is_for_dimensions(net, value) and all([is_fraction_from_nought(gamma) for gamma in value])


def check_gammas(net, gammas):
    """Raise InvalidWeights for what are no fractions from 0 on, one for each dimension."""
    if not is_for_dimensions(net, gammas):
        raise InvalidWeights(None)
    for index, gamma in enumerate(gammas):
        if not is_fraction_from_nought(gamma):
            raise InvalidWeights(index)


def is_sum_of_shape(net, value):
    """Whether a value, whatever it is, is a pair of a shape of the net and a fraction from 0 on."""
    if not isinstance(value, tuple) or len(value) != 2:
        return False
    return are_depths(net, value[0]) and is_fraction_from_nought(value[1])


def check_sums(net, sums):
    """Raise InvalidWeights for what are no pairs of a shape of the net and a fraction from 0 on."""
    if not isinstance(sums, tuple):
        raise InvalidWeights(None)
    for index, one in enumerate(sums):
        if not is_sum_of_shape(net, one):
            raise InvalidWeights(index)


def rests(net, word):
    """The numbers of starts at whose points the word weighs 0, 1, .., up to the base less 1."""
    check_net(net)
    check_word(net, word)
    base = net[0]
    width = width_of(net)
    if any(word_sum(net, word)):
        return (power(base, width - 1),) * base
    return (power(base, width),) + (0,) * (base - 1)


def rows_of_starts(net, depths):
    """For all starts the figures of their points within the depths, dimension by dimension."""
    return row_sums(net[0], columns(rows_within(net, depths), width_of(net)), sum(depths))


def box_index(base, figures):
    """The index, among all boxes of its depths in order, of the box with these figures."""
    index = 0
    for figure in figures:
        index = index * base + figure
    return index


def starts_by_boxes(net, depths):
    """The numbers of starts in the boxes of the depths, in order."""
    base = net[0]
    counts = [0] * power(base, sum(depths))
    for figures in rows_of_starts(net, depths):
        counts[box_index(base, figures)] += 1
    return counts


def mean_error(net, depths, values):
    """The mean of the values at the points of all starts, less the mean of all values."""
    check_net(net)
    check_depths(net, depths)
    boxes = power(net[0], sum(depths))
    check_values(boxes, values)
    check_few_starts(net[0], width_of(net))
    starts = power(net[0], width_of(net))
    # A value counts as often as there are starts in its box, less as often as all values do.
    counts = [reduced(many * boxes - starts, starts * boxes) for many in starts_by_boxes(net, depths)]
    return total_of([times_fraction(count, value) for count, value in zip(counts, values)])


def noughts_ahead(figures):
    """With how many noughts the figures begin."""
    place = first_place(figures)
    return len(figures) if place is None else place


def starts_by_leads(net):
    """The numbers of starts by their leads, found by a walk over all starts."""
    counts = {}
    depths = full_depths(net)
    for figures in rows_of_starts(net, depths):
        lead = tuple([noughts_ahead(part) for part in parted(figures, depths)])
        counts[lead] = counts.get(lead, 0) + 1
    return counts


def factor_below(base, depth, gamma):
    """A number that makes a whole number of 1 + gamma * F(n) of [19], for all n."""
    return gamma[1] * power(base, depth + 2)


def factor_above(base, depth, gamma, noughts):
    """1 + gamma * F(noughts) of [19], times what `factor_below` tells."""
    whole = sum([(base - 1) * power(base, depth + 1 - place) for place in range(1, noughts + 1)])
    if noughts < depth:
        whole = whole - power(base, depth - noughts)
    return factor_below(base, depth, gamma) + gamma[0] * whole


def factors_of_lead(factors, lead):
    """The product of the factors of all dimensions at so many noughts."""
    answer = 1
    for at, noughts in enumerate(lead):
        answer = answer * factors[at][noughts]
    return answer


def error_square(net, gammas):
    """The sum of the measures of all dual words but nought."""
    check_net(net)
    check_gammas(net, gammas)
    base = net[0]
    check_few_starts(base, width_of(net))
    depth = depth_of(net)
    factors = [[factor_above(base, depth, gamma, noughts) for noughts in range(depth + 1)] for gamma in gammas]
    above = sum([many * factors_of_lead(factors, lead) for lead, many in starts_by_leads(net).items()])
    below = power(base, width_of(net))
    for gamma in gammas:
        below = below * factor_below(base, depth, gamma)
    return reduced(above - below, below)


def gain(net, shape):
    """The number of dual words of the shape, divided by that of all words of it."""
    return reduced(shape_count(net, shape), words_of_shape(net[0], shape))


def scrambled_square(net, sums):
    """The sum of the gains of the shapes, but that of noughts, each times the fraction beside it."""
    check_net(net)
    check_sums(net, sums)
    return total_of([times_fraction(gain(net, shape), fraction) for shape, fraction in sums if any(shape)])
