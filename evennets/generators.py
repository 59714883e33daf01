"""Generators that step by tables: their streams, windows and rounds."""

from evennets.duals import outside_place
from evennets.errors import InvalidGenerator, InvalidStart, UnlikeNets
from evennets.figures import are_rows, is_base, is_row
from evennets.limits import MOST_DEPTH, MOST_DIMENSIONS, MOST_WIDTH, check_number
from evennets.linear import first_place, rank, rows_times, sum_of_rows, ties, unit_row
from evennets.orders import round_length
from evennets.polynomials import trimmed
from evennets.wholes import power
from evennets.words import flat_row, parted

MOST_ANSWERS = 400
MOST_STEPS = 10 ** 30
MOST_WINDOWS = 24


def is_generator(value):
    """Whether a value, whatever it is, is a generator."""
    if not isinstance(value, tuple) or len(value) != 3:
        return False
    base, step, out = value
    if not is_base(base) or not are_rows(base, step, MOST_WIDTH, MOST_WIDTH):
        return False
    return are_rows(base, out, MOST_DEPTH, MOST_WIDTH) and len(step) == len(step[0]) == len(out[0])


def check_generator(generator):
    """Raise InvalidGenerator for what is no generator."""
    if not is_generator(generator):
        raise InvalidGenerator(generator)


def size_of(generator):
    """How many figures a state of the generator has."""
    return len(generator[1])


def is_state(generator, value):
    """Whether a value, whatever it is, is a state of the generator."""
    size = size_of(generator)
    return is_row(generator[0], value, size, size)


def check_state(generator, start):
    """Raise InvalidStart for what is no state of the generator."""
    if not is_state(generator, start):
        raise InvalidStart(start)


def are_alike(generator, other):
    """Whether generators are of one base and have as many figures in each answer."""
    return generator[0] == other[0] and len(generator[2]) == len(other[2])


def answers(generator, start, number):
    """The first answers from a start, without any checks."""
    base, step, out = generator
    found = []
    state = start
    for _ in range(number):
        found.append(rows_times(base, out, state))
        state = rows_times(base, step, state)
    return tuple(found)


def stream(generator, start, number):
    """The first answers, so many of them, of the stream of the start."""
    check_generator(generator)
    check_state(generator, start)
    check_number(number, 0, MOST_ANSWERS)
    return answers(generator, start, number)


def table_times(base, table, other):
    """The table whose rows are those of the first one, each times the other one."""
    return tuple([sum_of_rows(base, row, other) for row in table])


def jumped(generator, start, steps):
    """The state that comes so many steps behind the start."""
    check_generator(generator)
    check_state(generator, start)
    check_number(steps, 0, MOST_STEPS)
    base, step, _ = generator
    state = start
    left = steps
    while left > 0:
        if left % 2 == 1:
            state = rows_times(base, step, state)
        step = table_times(base, step, step)
        left = left // 2
    return state


def window_tables(generator, windows):
    """By the answers of a window the rows that make their figures of the state ahead of them all."""
    base, step, out = generator
    tables = []
    table = out
    for _ in range(windows):
        tables.append(table)
        table = table_times(base, table, step)
    return tuple(tables)


def windows_net(generator, windows):
    """The net of windows of so many answers."""
    check_generator(generator)
    check_number(windows, 1, MOST_DIMENSIONS)
    return generator[0], window_tables(generator, windows)


def window_rows(tables, windows, figures):
    """The rows of the first figures of each of the first answers of a window, one answer behind the other."""
    return tuple([row for table in tables[:windows] for row in table[:figures]])


def free_windows(base, tables, figures):
    """The greatest number of answers, up to the number of tables, with which the rows are free, 0 if for none."""
    windows = 0
    while windows < len(tables):
        rows = window_rows(tables, windows + 1, figures)
        if rank(base, rows) < len(rows):
            return windows
        windows = windows + 1
    return windows


def staircase(generator):
    """For each number of leading figures the greatest number of answers with which the rows are free."""
    check_generator(generator)
    base, _, out = generator
    tables = window_tables(generator, size_of(generator))
    return tuple([free_windows(base, tables, figures) for figures in range(1, len(out) + 1)])


def window_tie(generator, windows, figures):
    """Any tie, not all 0, of the figures of a window, None if there is none, without any checks."""
    rows = window_rows(window_tables(generator, windows), windows, figures)
    # More rows than a state has figures are bound, whatever is behind them.
    some = rows[:size_of(generator) + 1]
    found = ties(generator[0], some)
    if len(found) == 0:
        return None
    return parted(found[0] + (0,) * (len(rows) - len(some)), (figures,) * windows)


def parity_of(generator, windows, figures):
    """Any tie of the leading figures of the answers of a window, None if there is none."""
    check_generator(generator)
    check_number(windows, 1, MOST_WINDOWS)
    check_number(figures, 1, len(generator[2]))
    return window_tie(generator, windows, figures)


def is_window_tie(generator, tie):
    """Whether rows of figures, one for each answer of a window, are a tie that is not all 0."""
    tables = window_tables(generator, len(tie))
    rows = window_rows(tables, len(tie), len(tie[0]))
    factors = flat_row(tie)
    return any(factors) and not any(sum_of_rows(generator[0], factors, rows))


def least_polynomial(generator, start):
    """The polynomial of the least degree that makes nought of the start when STEP is put for x."""
    base, step, _ = generator
    states = [start]
    for _ in range(size_of(generator)):
        states.append(rows_times(base, step, states[-1]))
    # With the last state first, the tie of the base in stairs that begins last is of the least degree.
    return trimmed(ties(base, states[::-1])[-1][::-1])


def round_at(generator, start):
    """The pair of the steps ahead of the round and of its length, without any checks."""
    polynomial = least_polynomial(generator, start)
    steps = first_place(polynomial)
    return steps, round_length(generator[0], polynomial[steps:])


def round_of(generator, start):
    """The pair (AHEAD, LENGTH): behind so many steps a state comes that comes again each so many steps."""
    check_generator(generator)
    check_state(generator, start)
    return round_at(generator, start)


def is_one_round(generator):
    """Whether all states but nought are in one round."""
    check_generator(generator)
    size = size_of(generator)
    return round_at(generator, unit_row(size, 0)) == (0, power(generator[0], size) - 1)


def enough_answers(generator, other):
    """With how many answers alike two streams are the same for ever."""
    return size_of(generator) + size_of(other)


def first_unlike(generator, start, other, begin):
    """The index of the first answer at which two streams are unlike, None if they are the same for ever."""
    many = enough_answers(generator, other)
    for index, (one, another) in enumerate(zip(answers(generator, start, many), answers(other, begin, many))):
        if one != another:
            return index
    return None


def check_streams(generator, start, other, begin):
    """Raise the first error of two starts whose streams are to be compared."""
    check_generator(generator)
    check_state(generator, start)
    check_generator(other)
    check_state(other, begin)
    if not are_alike(generator, other):
        raise UnlikeNets()


def are_same_streams(generator, start, other, begin):
    """Whether the streams of both starts are the same for ever."""
    check_streams(generator, start, other, begin)
    return first_unlike(generator, start, other, begin) is None


def stray_start(generator, other):
    """Any start of `generator` whose stream no start of `other` has, None if there is none."""
    check_generator(generator)
    check_generator(other)
    if not are_alike(generator, other):
        raise UnlikeNets()
    many = enough_answers(generator, other)
    # The windows of both are as the points of two nets, though there may be more dimensions than six.
    place = outside_place((generator[0], window_tables(generator, many)), (other[0], window_tables(other, many)))
    return None if place is None else unit_row(size_of(generator), place)
