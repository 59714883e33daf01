"""What no net can be, and nets that grow."""

from evennets.figures import check_base
from evennets.limits import (
    MOST_DEPTH, MOST_DIMENSIONS, MOST_WIDTH, check_depth, check_few_starts, check_number, check_width)
from evennets.nets import start_at
from evennets.wholes import is_within, power
from evennets.words import words_of_shape

MOST_WEIGHT = 72


def ball_words(base, dimensions, depth, weight):
    """How many words, for any number of dimensions from 0 on, have at most this stair weight."""
    counts = [1]
    for _ in range(dimensions):
        longer = [0] * (len(counts) + depth)
        for ahead, many in enumerate(counts):
            for one in range(depth + 1):
                longer[ahead + one] += many * words_of_shape(base, (one,))
        counts = longer
    return sum(counts[:weight + 1])


def most_dimensions(base, width, size):
    """The second bound of [15], for a size from 2 up to the width."""
    return (power(base, width - size + 2) - 1) // (base - 1)


def are_sizes(width, dimensions, size):
    """Whether values, whatever they are, are a width, a number of dimensions and a depth of a net."""
    if not is_within(width, 1, MOST_WIDTH) or not is_within(dimensions, 1, MOST_DIMENSIONS):
        return False
    return is_within(size, 1, MOST_DEPTH)


def check_sizes(base, width, dimensions, size):
    """Raise the first error of a base and the sizes of a net as deep as its strength is to be."""
    check_base(base)
    check_width(width)
    check_number(dimensions, 1, MOST_DIMENSIONS)
    check_depth(size)


def ball_size(base, dimensions, depth, weight):
    """How many words are in the ball of the weight."""
    check_base(base)
    check_number(dimensions, 1, MOST_DIMENSIONS)
    check_depth(depth)
    check_number(weight, 0, MOST_WEIGHT)
    return ball_words(base, dimensions, depth, weight)


def barred_by(base, width, dimensions, size):
    """The first reason why no net of the depth `size` has at least this strength, None if none of them bars it."""
    check_sizes(base, width, dimensions, size)
    if size > width:
        return "width"
    if size > 1 and dimensions > most_dimensions(base, width, size):
        return "lines"
    if ball_words(base, dimensions, size, size // 2) > power(base, width):
        return "ball"
    return None


def will_grow(base, width, dimensions, size):
    """Whether rows are sure to be left, whichever of those that are not barred are taken."""
    check_sizes(base, width, dimensions, size)
    barred = [
        power(base, place - 1) * ball_words(base, dimensions - 1, size, size - place) for place in range(1, size + 1)]
    return max(barred) < power(base, width)


def numbers_moved(base, row):
    """For each number of a row the number of its sum with the given row."""
    moved = [0]
    for figure in row:
        moved = [number + (one + figure) % base * len(moved) for one in range(base) for number in moved]
    return moved


def least_weights(base, weights, row):
    """For each number of a row the least weight of it and of its sums with multiples of the given row."""
    moved = numbers_moved(base, row)
    least = list(weights)
    places = list(moved)
    for _ in range(base - 1):
        least = [min(one, weights[place]) for one, place in zip(least, places)]
        places = [moved[place] for place in places]
    return least


def first_above(weights, bound):
    """The least number whose weight is above the bound, None if none is."""
    for number, weight in enumerate(weights):
        if weight > bound:
            return number
    return None


def grown_table(base, width, size, weights):
    """The pair of a further dimension's rows and of the weights with it, None if at some row all are barred.

    The weights are, for each number of a row, the least stair weight of a word of the dimensions
    ahead whose rows sum to it, or `size` if that is not less.
    """
    rows = []
    further = weights
    ahead = weights
    for place in range(1, size + 1):
        number = first_above(ahead, size - place)
        if number is None:
            return None
        row = start_at(base, width, number)
        rows.append(row)
        ahead = least_weights(base, ahead, row)
        further = [min(one, other + place) for one, other in zip(further, ahead)]
    return tuple(rows), further


def greedy_net(base, width, dimensions, size):
    """The net that is grown by greed, None if at some row all rows are barred."""
    weights = [0] + [size] * (power(base, width) - 1)
    tables = []
    for _ in range(dimensions):
        grown = grown_table(base, width, size, weights)
        if grown is None:
            return None
        table, weights = grown
        tables.append(table)
    return base, tuple(tables)


def grown_net(base, width, dimensions, size):
    """The net of the depth `size` grown by greed, None if at some row all rows are barred."""
    check_sizes(base, width, dimensions, size)
    check_few_starts(base, width)
    return greedy_net(base, width, dimensions, size)
