"""Generators as the document tells them, stepped one state after the other, without the package."""

import itertools

from tests.samples import all_rows, any_values, made_rows, never_bases, put, table_of
from tests.searches import unit_table

GOLD = (2, ((0, 1), (1, 1)), ((1, 0),))
CALM = (2, ((1, 0), (0, 0)), ((1, 0),))


def applied(base, rows, state):
    return tuple(sum(a * b for a, b in zip(row, state)) % base for row in rows)


def stepped(generator, start, number):
    """The first states from the start."""
    states = [start]
    while len(states) < number:
        states.append(applied(generator[0], generator[1], states[-1]))
    return states[:number]


def answers(generator, start, number):
    return tuple(applied(generator[0], generator[2], state) for state in stepped(generator, start, number))


def states_of(generator):
    return list(all_rows(generator[0], len(generator[1])))


def windows_of(generator, windows, figures):
    """The windows of all states, as rows of figures."""
    return [
        tuple(itertools.chain(*[answer[:figures] for answer in answers(generator, state, windows)]))
        for state in states_of(generator)]


def is_tie(generator, tie, figures):
    """Whether figures make 0 in the windows of all states, one after another in their streams."""
    factors = tuple(itertools.chain(*tie))
    return all(
        sum(a * b for a, b in zip(factors, window)) % generator[0] == 0
        for window in windows_of(generator, len(tie), figures))


def searched_round(generator, start):
    """How many steps are ahead of the round, and its length, by a walk until a state comes again."""
    seen, state = {}, start
    while state not in seen:
        seen[state] = len(seen)
        state = applied(generator[0], generator[1], state)
    return seen[state], len(seen) - seen[state]


def made_generator(seed, base, size, figures):
    return base, made_rows((seed, "step"), base, size, size), made_rows((seed, "out"), base, figures, size)


def shifting(base, size, figures=1):
    """A step that leads each figure to the place ahead, nought at last."""
    step = tuple(tuple(int(at == place + 1) for at in range(size)) for place in range(size))
    return base, step, unit_table(figures, size)


def companion(base, last, figures=1):
    """A step to the next places, the last figure being the sum of all, each times one of the told figures."""
    size = len(last)
    return base, shifting(base, size)[1][:-1] + (tuple(last),), unit_table(figures, size)


SIZES = {
    2: ((1, 1), (1, 2), (2, 1), (2, 2), (3, 1), (3, 2), (4, 1), (4, 3), (5, 2), (6, 6)),
    3: ((1, 1), (2, 1), (2, 2), (3, 1), (3, 2), (4, 2)), 5: ((1, 1), (1, 2), (2, 1), (2, 2)), 7: ((1, 2), (2, 1), (2, 3))}


def small_generators(base):
    """Generators all of whose states can be walked over: free ones, and such as have noughts or the same rows."""
    found = []
    for size, figures in SIZES[base]:
        found += [made_generator(seed, base, size, figures) for seed in "abc"]
        found += [
            (base, table_of(size, size, 0), made_rows("o", base, figures, size)),
            (base, unit_table(size, size), table_of(figures, size, 1)),
            (base, made_rows("s", base, size, size), table_of(figures, size, 0)), shifting(base, size, figures),
            companion(base, (base - 1,) + (0,) * (size - 1), figures), companion(base, (1,) * size, figures)]
    return found


def wrong_generators():
    """Values that are no generator."""
    step, out = ((0, 1), (1, 1)), ((1, 0),)
    wrong = any_values() + [
        (2, step), (2, step, out, ()), [2, step, out], (2, out, step), (2, step, ()), (2, (), out), (2, (), ()), (2, step, None),
        (2, None, out), (2, step, ((1,),)), (2, step, ((1, 0, 0),)), (2, step, ((1, 0), (1,))), (2, ((0, 1),), out),
        (2, step + out, out), (2, ((0, 1, 0), (1, 1, 0)), ((1, 0, 0),)), (2, ((0, 1), (1,)), out), (2, (((),),), ((),)),
        (2, ((),), ((),)), (2, table_of(13, 13), table_of(1, 13)), (2, table_of(12, 12), table_of(13, 12)),
        (2, step, table_of(13, 2)), (2, ((0, 2), (1, 1)), out), (2, step, ((2, 0),)), (2, step, ((-1, 0),)),
        (2, ((0, True), (1, 1)), out), (2, step, ((False, 1),)), (2, [[0, 1], [1, 1]], out), (2, step, [(1, 0)]),
        (2, step, ([1, 0],)), (2, ((0, 1), [1, 1]), out), (2, ("01", "11"), ("10",)), (2, step, (b"10",)),
        (7, ((7,),), ((1,),)), (3, ((1,),), ((3,),)), (2, step, (1, 0)), (2, (0, 1), (1, 0)), ((2,), step, out)]
    wrong += [(base, step, out) for base in never_bases()]
    return wrong + [put(GOLD, path, value) for path in ((1,), (2,), (1, 1), (2, 0)) for value in any_values()] + [
        put(GOLD, path, value) for path in ((1, 0, 0), (2, 0, 1)) for value in any_values()
        if not (type(value) is int and value in (0, 1))]


def wrong_states(size):
    """Values that are no states of so many figures over the base 2."""
    right = (1,) * size
    return any_values() + [
        right + (0,), right[1:], list(right), (2,) + right[1:], right[:-1] + (-1,), (True,) + right[1:], (None,) + right[1:],
        right[:-1] + (False,), "1" * size, (right,), right[:-1] + ((1,),)]
