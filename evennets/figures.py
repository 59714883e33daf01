"""Bases, their figures, and rows of them: ranks and ties."""

from evennets.errors import InvalidBase, InvalidRows
from evennets.linear import rank, ties
from evennets.wholes import is_whole

BASES = (2, 3, 5, 7)
MOST_ROWS = 60
MOST_FIGURES = 60


def is_base(value):
    """Whether a value, whatever it is, is a base."""
    return is_whole(value) and value in BASES


def is_figure(base, value):
    """Whether a value, whatever it is, is a figure of the base."""
    return is_whole(value) and 0 <= value < base


def is_row(base, value, least, most):
    """Whether a value, whatever it is, is a row of `least` to `most` figures of the base."""
    if not isinstance(value, tuple) or not least <= len(value) <= most:
        return False
    return all([is_figure(base, one) for one in value])


def are_rows(base, value, most_rows, most_figures):
    """Whether a value, whatever it is, are rows of one length, at least one of at least one figure."""
    if not isinstance(value, tuple) or not 1 <= len(value) <= most_rows:
        return False
    if not all([is_row(base, row, 1, most_figures) for row in value]):
        return False
    return all([len(row) == len(value[0]) for row in value])


def check_base(base):
    """Raise InvalidBase for what is no base."""
    if not is_base(base):
        raise InvalidBase(base)


def check_rows(base, rows):
    """Raise InvalidRows for what are no 1 to 60 rows of one length, 1 to 60."""
    if not isinstance(rows, tuple) or len(rows) == 0:
        raise InvalidRows(None)
    for index, row in enumerate(rows):
        if index == MOST_ROWS or not is_row(base, row, 1, MOST_FIGURES) or len(row) != len(rows[0]):
            raise InvalidRows(index)


def rank_of(base, rows):
    """The rank of the rows."""
    check_base(base)
    check_rows(base, rows)
    return rank(base, rows)


def ties_of(base, rows):
    """The base in stairs of all ties of the rows, () if they are free."""
    check_base(base)
    check_rows(base, rows)
    return ties(base, rows)
