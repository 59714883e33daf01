"""The errors of the package: each one keeps, as it is, what it was made with."""


class EvenError(ValueError):
    """What all errors of this package are."""


class InvalidBase(EvenError):
    """What was passed is no base."""

    def __init__(self, given):
        self.given = given


class InvalidNet(EvenError):
    """What was passed is no net."""

    def __init__(self, given):
        self.given = given


class InvalidStart(EvenError):
    """What was passed is no start of the net, or no state of the generator."""

    def __init__(self, given):
        self.given = given


class InvalidDepths(EvenError):
    """What was passed are no depths of the net."""

    def __init__(self, given):
        self.given = given


class InvalidBox(EvenError):
    """What was passed is no box of the net."""

    def __init__(self, given):
        self.given = given


class InvalidWord(EvenError):
    """What was passed is no word."""

    def __init__(self, given):
        self.given = given


class InvalidShape(EvenError):
    """What was passed is no shape, or no lead."""

    def __init__(self, given):
        self.given = given


class InvalidTable(EvenError):
    """What was passed is no table of the wanted size."""

    def __init__(self, given):
        self.given = given


class InvalidNumber(EvenError):
    """What was passed is no whole number of the told stretch."""

    def __init__(self, given):
        self.given = given


class InvalidIndex(EvenError):
    """What was passed is no index of a dimension."""

    def __init__(self, given):
        self.given = given


class InvalidPolynomial(EvenError):
    """What was passed is no polynomial of the told degrees."""

    def __init__(self, given):
        self.given = given


class InvalidModulus(EvenError):
    """What was passed is no polynomial that may be a modulus."""

    def __init__(self, given):
        self.given = given


class InvalidRule(EvenError):
    """What was passed is no rule."""

    def __init__(self, given):
        self.given = given


class InvalidGenerator(EvenError):
    """What was passed is no generator."""

    def __init__(self, given):
        self.given = given


class TooMany(EvenError):
    """The number that is told is above what is let."""

    def __init__(self, given):
        self.given = given


class InvalidRows(EvenError):
    """The row at the index is wrong, or, for None, all that was passed."""

    def __init__(self, index):
        self.index = index


class InvalidWords(EvenError):
    """The word at the index is wrong, or, for None, all that was passed."""

    def __init__(self, index):
        self.index = index


class InvalidPolynomials(EvenError):
    """The polynomial at the index is wrong, or, for None, all that was passed."""

    def __init__(self, index):
        self.index = index


class InvalidWeights(EvenError):
    """The weight at the index is wrong, or, for None, all that was passed."""

    def __init__(self, index):
        self.index = index


class InvalidTables(EvenError):
    """The table at the index is wrong, or, for None, all that was passed."""

    def __init__(self, index):
        self.index = index


class InvalidValues(EvenError):
    """The value at the index is wrong, or, for None, all that was passed."""

    def __init__(self, index):
        self.index = index


class UnlikeNets(EvenError):
    """Two nets or generators do not fit one another."""


class NotRegular(EvenError):
    """The rows of a table are bound."""


class NotEven(EvenError):
    """Rows that must be free for the net to be stretched are bound."""


class NotFree(EvenError):
    """Two polynomials have a common factor."""
