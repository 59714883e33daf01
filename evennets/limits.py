"""How large nets may be, how much may be walked over, and checks of numbers that are passed."""

from evennets.errors import InvalidNumber, TooMany
from evennets.wholes import is_within, power

MOST_DIMENSIONS = 6
MOST_DEPTH = 12
MOST_WIDTH = 12
MOST_WALKED = 4096


def check_number(number, least, most):
    """Raise InvalidNumber for no whole number from the least to the most."""
    if not is_within(number, least, most):
        raise InvalidNumber(number)


def check_depth(depth):
    """Raise InvalidNumber for what can be no depth of a net."""
    check_number(depth, 1, MOST_DEPTH)


def check_width(width):
    """Raise InvalidNumber for what can be no width of a net."""
    check_number(width, 1, MOST_WIDTH)


def check_few(many):
    """Raise TooMany for more things than may be walked over."""
    if many > MOST_WALKED:
        raise TooMany(many)


def check_few_dimensions(dimensions):
    """Raise TooMany for more dimensions than a net may have."""
    if dimensions > MOST_DIMENSIONS:
        raise TooMany(dimensions)


def are_few_starts(base, width):
    """Whether no more starts have so many figures than may be walked over."""
    return power(base, width) <= MOST_WALKED


def check_few_starts(base, width):
    """Raise TooMany for more starts of so many figures than may be walked over."""
    check_few(power(base, width))
