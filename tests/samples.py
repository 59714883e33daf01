"""Values, rows and nets that several tests use, and slow searches to test against."""

import itertools
import random
from decimal import Decimal
from fractions import Fraction

BASES = (2, 3, 5, 7)


class Odd:
    """Says that it is equal to everything, and has no length that could be asked for."""

    def __eq__(self, other):
        return True

    def __hash__(self):
        return 2

    def __len__(self):
        raise RuntimeError("no length")

    def __index__(self):
        return 2


def nested(levels):
    """A value that is nested so many tuples deep."""
    value = 1
    for _ in range(levels):
        value = (value,)
    return value


def any_values():
    """Values of many kinds, none of which is a base, a net, or a row of figures of the base 2."""
    return [
        None, True, False, 0, 1, -1, -2, 4, 6, 8, 9, 10 ** 399, -(10 ** 399),
        "", "2", "text", "x" * 400, b"", b"2", b"\x02",
        (), (2,), (2, ()), (2, None), ((),), (None,), ("a", "b"), nested(14), (2, 3, 5, 7) * 15,
        [], [2], [[1]], [2, [[[1]]]], {}, {2: 2}, {"given": [1]}, set(), {2}, frozenset((2,)),
        range(3), 2 + 0j, Fraction(2), Decimal(2), bytearray(b"\x02"), object(), Odd(), (Odd(), Odd()),
        int, len, Odd, lambda value: value, Ellipsis, NotImplemented,
    ]


def never_bases():
    """Values that are no base."""
    return any_values() + [11, 7 ** 2, -3, -5, -7, [2], (2, 3), "3"]


def never_numbers(least, most):
    """Values that are no whole number from the least to the most."""
    others = [value for value in any_values() if not (type(value) is int and least <= value <= most)]
    return others + [least - 1, most + 1, most + 2, -most - 1, str(most), (most,)]


def never_fractions():
    """Values that are no fraction."""
    return any_values() + [
        (1, 0), (0, 0), (0, 2), (0, -1), (2, 4), (1, -1), (-1, -1), (6, 3), (2, 2), (-2, 4), (1, 2, 3), (1,), [1, 2],
        (True, 1), (1, True), (False, 1), (None, 1), (1, None), ("1", 2), ((1, 2), (1, 2)), (10 ** 399, 10), "12", b"12",
        Fraction(1, 2), {1: 2}, (1, 2 + 0j), (0, False)]


def never_fractions_from_nought():
    """Values that are no fraction from 0 on."""
    return never_fractions() + [(-1, 1), (-1, 2), (-(10 ** 399), 1)]


def made_rows(seed, base, many, length):
    """So many rows, the same ones for the same seed."""
    chance = random.Random(repr((seed, base, many, length)))
    return tuple(tuple(chance.randrange(base) for _ in range(length)) for _ in range(many))


def made_net(seed, base, dimensions, depth, width):
    """A net of just these sizes, the same one for the same seed."""
    rows = made_rows(seed, base, dimensions * depth, width)
    return base, tuple(rows[at * depth:(at + 1) * depth] for at in range(dimensions))


def table_of(depth, width, figure=1):
    """A table of that size, all of whose figures are the same."""
    return ((figure,) * width,) * depth


def put(value, path, new):
    """The nested tuple with a new value where the path of indexes leads."""
    if not path:
        return new
    at = path[0]
    return value[:at] + (put(value[at], path[1:], new),) + value[at + 1:]


def wrong_nets():
    """Values that are no nets, most of them just beyond a bound or with one wrong part."""
    table = table_of(2, 3)
    wrong = [
        (2, ()), (2, (table,) * 7), (2, ((),)), (2, (table_of(13, 2),)), (2, (table_of(1, 0),)),
        (2, (table_of(1, 13),)), (2, (table_of(12, 13),)), (2, (table, ())), (2, ((), table)),
        (2, (table, table_of(1, 3))), (2, (table, table_of(3, 3))), (2, (table_of(1, 3), table, table)),
        (2, (table, table_of(2, 2))), (2, (table, table_of(2, 4))), (2, (table_of(2, 1), table, table)),
        (2, (((1, 1, 1), (1, 1)),)), (2, (((1, 1), (1, 1, 1)),)), (2, (table, ((1, 1, 1), (1, 1)))),
        (2, table), (2, (1, 1)), (2, None), (2,), (table,), ((table,), 2), (2, (table,), ()), (2, (table,), None),
        [2, (table,)], (2, [table]), (2, ([(1, 1)],)), (2, ([1, 1],)), (2, (([1, 1],),)), (2, (((1, 1), [1, 1]),)),
        (2, {0: table}), {2: (table,)}, (True, (table,)), (2, (((True, 0),),)), (2, (((0, False),),)),
        (2, (((1, 2),),)), (2, (((-1, 1),),)), (2, (((1, None),),)), (2, ((("1", 0),),)), (2, (("10", "01"),)),
        (2, ((b"\x01",),)), (3, (((3,),),)), (5, (((5,),),)), (7, (((7,),),)), (table_of(2, 2),), "net",
        (2, (table_of(10 ** 5, 1),)), (2, (table_of(1, 10 ** 5),)), (2, (table,) * 10 ** 5), (2,) * 10 ** 5]
    return wrong + [(base, (table_of(1, 1),)) for base in never_bases()]


def all_rows(base, length):
    """All rows of so many figures."""
    return itertools.product(range(base), repeat=length)


def sum_of(base, factors, rows):
    """The sum of the rows, each times its factor."""
    return tuple(
        sum(factor * row[place] for factor, row in zip(factors, rows)) % base for place in range(len(rows[0])))


def searched_sums(base, rows):
    """All sums of multiples of the rows, found by trying all factors."""
    return {sum_of(base, factors, rows) for factors in all_rows(base, len(rows))}


def searched_ties(base, rows):
    """All ties of the rows, found by trying all factors."""
    return {factors for factors in all_rows(base, len(rows)) if not any(sum_of(base, factors, rows))}


def are_in_stairs(rows):
    """Whether the rows are in stairs, told by the words of the document."""
    if not all(any(row) for row in rows):
        return False
    leads = [next(place for place, figure in enumerate(row) if figure) for row in rows]
    return all(rows[at][leads[at]] == 1 for at in range(len(rows))) and all(
        leads[at - 1] < leads[at] for at in range(1, len(rows))) and all(
        rows[other][leads[at]] == 0 for at in range(len(rows)) for other in range(len(rows)) if other != at)
