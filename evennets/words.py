"""Words of a net, told as they are, as one row of figures, or as ties of the net's rows."""

from evennets.errors import InvalidWord
from evennets.figures import is_row
from evennets.linear import row_times
from evennets.nets import depth_of
from evennets.wholes import power


def is_word(net, value):
    """Whether a value, whatever it is, is a word of the net."""
    base, tables = net
    if not isinstance(value, tuple) or len(value) != len(tables):
        return False
    depth = depth_of(net)
    return all([is_row(base, part, depth, depth) for part in value])


def check_word(net, word):
    """Raise InvalidWord for what is no word of the net."""
    if not is_word(net, word):
        raise InvalidWord(word)


def flat_row(parts):
    """The figures of all parts of a word or a box, dimension by dimension, as one row."""
    return tuple([figure for part in parts for figure in part])


def parted(row, lengths):
    """The row, cut to parts of these lengths."""
    parts = []
    at = 0
    for length in lengths:
        parts.append(row[at:at + length])
        at = at + length
    return tuple(parts)


def word_within(net, depths, tie):
    """The word that has the figures of a tie of the rows within the depths at these, and 0 behind them."""
    depth = depth_of(net)
    return tuple([part + (0,) * (depth - len(part)) for part in parted(tie, depths)])


def greatest_place(part):
    """The greatest place, from 1 on, at which a part of a word has not 0, 0 if there is none."""
    return max([at + 1 for at, figure in enumerate(part) if figure != 0], default=0)


def shape_of_word(word):
    """The shape of a word, without any checks."""
    return tuple([greatest_place(part) for part in word])


def weighs(base, word, figures):
    """By how much the word weighs a point, or the figures of a box within which it is."""
    return sum([row_times(base, part, others) for part, others in zip(word, figures)]) % base


def words_of_shape(base, shape):
    """How many words have just this shape."""
    many = 1
    for one in shape:
        if one > 0:
            many = many * (base - 1) * power(base, one - 1)
    return many
