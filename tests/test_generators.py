"""Points 30 to 33, and evennets/generators.py: streams, windows, rounds and strays of generators."""

import itertools
import unittest

from evennets.errors import InvalidGenerator, InvalidNumber, InvalidStart, UnlikeNets
from evennets.generators import (
    are_same_streams, is_generator, is_one_round, jumped, parity_of, round_of, staircase, stray_start, stream,
    windows_net)
from evennets.nets import is_net
from tests.checks import Calls, given
from tests.machines import (
    CALM, GOLD, answers, applied, companion, is_tie, made_generator, searched_round, shifting, small_generators,
    states_of, stepped, windows_of, wrong_generators, wrong_states)
from tests.samples import BASES, made_rows, never_numbers, put, table_of
from tests.searches import points_by_starts, slow_rank, unit_table

ALL_SMALL = [generator for base in BASES for generator in small_generators(base)]
WRONG_GENERATORS = given(InvalidGenerator, wrong_generators())
WRONG_STATES = given(InvalidStart, wrong_states(2))
# Steps of one round over all states but nought, by their last rows.
FULL_ROUNDS = ((2, (1, 1)), (2, (1, 1, 0)), (2, (1, 1, 0, 0)), (3, (1, 1)), (5, (3, 1)), (7, (4, 1)))


def are_free(generator, windows, figures):
    """Whether all rows of figures come in the windows, and just as often: told by counting."""
    found = windows_of(generator, windows, figures)
    counts = {row: found.count(row) for row in set(found)}
    return len(counts) == generator[0] ** (windows * figures) and len(set(counts.values())) == 1


def primes_of(number):
    """The primes that divide a number."""
    found, prime = set(), 2
    while prime * prime <= number:
        if number % prime == 0:
            found.add(prime)
            number //= prime
        else:
            prime += 1
    return found | {number} - {1}


def size_of(generator):
    return len(generator[1])


class IsGenerator(unittest.TestCase):
    def told(self, value):
        first = is_generator(value)
        self.assertIs(is_generator(value=value), first)
        return first

    def test_right(self):
        for generator in ALL_SMALL:
            self.assertIs(self.told(generator), True)
        for base in BASES:
            for size in range(1, 13):
                for figures in (1, 5, 12):
                    self.assertIs(self.told(made_generator("right", base, size, figures)), True)
                    self.assertIs(self.told((base, table_of(size, size, 0), table_of(figures, size, base - 1))), True)

    def test_wrong(self):
        for value in wrong_generators():
            before = repr(value)
            self.assertIs(self.told(value), False, before)
            self.assertEqual(repr(value), before)


class Streams(Calls):
    def test_step_by_step(self):
        for generator in ALL_SMALL:
            for start in states_of(generator)[::3]:
                for number in (0, 1, 2, 9):
                    self.assertEqual(stream(generator, start, number), answers(generator, start, number))

    def test_up_to_400(self):
        for base in BASES:
            generator = made_generator("long", base, 12, 12)
            (start,) = made_rows("start", base, 1, 12)
            for number in (0, 1, 399, 400):
                self.assertEqual(self.told(stream, generator, start, number), answers(generator, start, number))

    def test_wrong_arguments(self):
        self.check_wrong(
            stream, (GOLD, (1, 0), 3), WRONG_GENERATORS, WRONG_STATES, given(InvalidNumber, never_numbers(0, 400)))

    def test_jumps(self):
        for generator in ALL_SMALL:
            for start in states_of(generator)[::5]:
                states = stepped(generator, start, 20)
                self.assertEqual([jumped(generator, start, steps) for steps in range(20)], states)

    def test_great_jumps(self):
        for generator in ALL_SMALL:
            for start in states_of(generator)[::7]:
                ahead, length = searched_round(generator, start)
                states = stepped(generator, start, ahead + length)
                for steps in (10 ** 30, 10 ** 30 - 1, 10 ** 18 + 7, 2 ** 64, 2 ** 99 - 1, 10 ** 6):
                    wanted = states[ahead + (steps - ahead) % length]
                    self.assertEqual(jumped(generator, start, steps), wanted)

    def test_jumps_in_all_ways(self):
        generator, start = made_generator("jump", 7, 12, 1), made_rows("jump", 7, 1, 12)[0]
        middle = self.told(jumped, generator, start, 10 ** 29 + 1)
        self.assertEqual(
            jumped(generator, middle, 9 * 10 ** 29 - 1), self.told(jumped, generator, start, 10 ** 30))
        self.assertEqual(self.told(jumped, generator, start, 0), start)
        self.assertEqual(self.told(jumped, generator, (0,) * 12, 10 ** 30), (0,) * 12)
        self.assertEqual(self.told(jumped, shifting(5, 12), (4,) * 12, 11), (4,) + (0,) * 11)
        self.assertEqual(self.told(jumped, shifting(5, 12), (4,) * 12, 12), (0,) * 12)

    def test_wrong_arguments_of_jumps(self):
        self.check_wrong(
            jumped, (GOLD, (1, 0), 10 ** 30), WRONG_GENERATORS, WRONG_STATES,
            given(InvalidNumber, never_numbers(0, 10 ** 30) + [10 ** 30 + 1, 10 ** 400 - 1]))


class Windows(Calls):
    def test_points_are_windows(self):
        for generator in ALL_SMALL:
            for windows in (1, 2, 3, 6):
                net = self.told(windows_net, generator, windows)
                self.assertTrue(is_net(net))
                self.assertEqual(
                    [point for _, point in points_by_starts(net)],
                    [answers(generator, state, windows) for state in states_of(generator)])

    def test_large_windows(self):
        for base in BASES:
            generator = made_generator("windows", base, 12, 12)
            net = self.told(windows_net, generator, 6)
            start = made_rows("windows", base, 1, 12)[0]
            self.assertTrue(is_net(net))
            self.assertEqual(
                tuple(applied(base, table, start) for table in net[1]), answers(generator, start, 6))

    def test_wrong_windows(self):
        self.check_wrong(windows_net, (GOLD, 2), WRONG_GENERATORS, given(InvalidNumber, never_numbers(1, 6)))

    def test_staircase_by_counting(self):
        for generator in ALL_SMALL:
            size = size_of(generator)
            wanted = []
            for figures in range(1, len(generator[2]) + 1):
                free = [windows for windows in range(1, size + 2) if are_free(generator, windows, figures)]
                self.assertEqual(free, list(range(1, len(free) + 1)))
                wanted.append(len(free))
                self.assertLessEqual(len(free), size // figures)
            self.assertEqual(self.told(staircase, generator), tuple(wanted))

    def test_staircase_of_large_generators(self):
        for base in BASES:
            steps = tuple(12 // figures for figures in range(1, 13))
            self.assertEqual(self.told(staircase, shifting(base, 12, 1)), (12,))
            self.assertEqual(self.told(staircase, (base, unit_table(12, 12), unit_table(12, 12))), (1,) * 12)
            self.assertEqual(self.told(staircase, (base, unit_table(12, 12), table_of(12, 12, 0))), (0,) * 12)
            for seed in range(4):
                generator = made_generator(seed, base, 12, 12)
                found = self.told(staircase, generator)
                self.assertEqual(len(found), 12)
                self.assertTrue(all(one <= most for one, most in zip(found, steps)))
                self.check_stairs(generator, found)

    def check_stairs(self, generator, stairs):
        """By the ranks of the rows of one more window, and of none more."""
        for figures, windows in enumerate(stairs, 1):
            tables = [generator[2][:figures]]
            for _ in range(windows):
                step = [list(column) for column in zip(*generator[1])]
                tables.append(tuple(applied(generator[0], step, row) for row in tables[-1]))
            for more, wanted in ((0, True), (1, False)):
                rows = list(itertools.chain(*tables[:windows + more]))
                if rows:
                    self.assertIs(slow_rank(generator[0], rows) == len(rows), wanted)

    def test_wrong_staircases(self):
        self.check_wrong(staircase, (GOLD,), WRONG_GENERATORS)


class Parities(Calls):
    def test_ties(self):
        for generator in ALL_SMALL:
            for windows in range(1, size_of(generator) + 3):
                for figures in range(1, len(generator[2]) + 1):
                    self.check_tie(generator, windows, figures)

    def check_tie(self, generator, windows, figures):
        found = parity_of(generator, windows, figures)
        self.assertIs(found is None, are_free(generator, windows, figures))
        if found is not None:
            self.check_kinds(found)
            self.assertEqual([len(row) for row in found], [figures] * windows)
            self.assertTrue(all(type(row) is tuple and set(row) <= set(range(generator[0])) for row in found))
            self.assertTrue(any(map(any, found)))
            self.assertTrue(is_tie(generator, found, figures))

    def test_at_all_times(self):
        for generator in ALL_SMALL[::4]:
            found = self.told(parity_of, generator, size_of(generator) + 1, 1)
            for start in states_of(generator)[::5]:
                told = answers(generator, start, 30)
                for at in range(30 - len(found)):
                    total = sum(row[0] * answer[0] for row, answer in zip(found, told[at:]))
                    self.assertEqual(total % generator[0], 0)

    def test_up_to_24_windows_of_12_figures(self):
        for base in BASES:
            for generator in (made_generator("great", base, 12, 12), made_generator("great", base, 1, 12)):
                for windows, figures in ((24, 12), (24, 1), (2, 12), (13, 1), (1, 12)):
                    found = self.told(parity_of, generator, windows, figures)
                    size = size_of(generator)
                    if windows * figures > size:
                        self.assertIsNotNone(found)
                    if found is not None:
                        self.assertEqual([len(row) for row in found], [figures] * windows)
                        for start in unit_table(size, size):
                            factors = itertools.chain(*found)
                            told = itertools.chain(*[one[:figures] for one in answers(generator, start, windows)])
                            self.assertEqual(sum(a * b for a, b in zip(factors, told)) % base, 0)

    def test_wrong_arguments(self):
        generator = (2, GOLD[1], unit_table(3, 2))
        self.check_wrong(
            parity_of, (generator, 2, 1), WRONG_GENERATORS, given(InvalidNumber, never_numbers(1, 24)),
            given(InvalidNumber, never_numbers(1, 3)))
        self.refused(InvalidNumber, 25, parity_of, GOLD, 25, 2)
        self.refused(InvalidNumber, 2, parity_of, GOLD, 24, 2)


class Rounds(Calls):
    def test_by_walks(self):
        for generator in ALL_SMALL:
            for start in states_of(generator)[::2] + [(0,) * size_of(generator)]:
                self.assertEqual(round_of(generator, start), searched_round(generator, start))

    def test_steps_ahead(self):
        for base in BASES:
            for size in range(1, 13):
                for place in range(size):
                    start = tuple(int(at == place) for at in range(size))
                    self.assertEqual(self.told(round_of, shifting(base, size), start), (place + 1, 1))
            # Three states ahead, behind them a round of two figures that change their places.
            step = ((0, 1, 0, 0, 0), (0, 0, 1, 0, 0), (0, 0, 0, 0, 0), (0, 0, 0, 0, 1), (0, 0, 0, 1, 0))
            self.assertEqual(self.told(round_of, (base, step, step), (0, 0, 1, 1, 0)), (3, 2))
            self.assertEqual(self.told(round_of, (base, step, step), (0, 0, 1, 1, 1)), (3, 1))
            self.assertEqual(self.told(round_of, (base, step, step), (0, 0, 0, 0, 0)), (0, 1))

    def test_factors_that_come_several_times(self):
        # (x - 1) to the power n: the length is the least power of the base from n on.
        for base in BASES:
            for size in range(1, 13):
                last, one = [1], [-1, 1]
                for _ in range(size):
                    last = [sum(last[at - k] * one[k] for k in (0, 1) if 0 <= at - k < len(last)) for at in range(len(last) + 1)]
                generator = companion(base, tuple(-figure % base for figure in last[:-1]))
                power = 1
                while power < size:
                    power *= base
                start = (0,) * (size - 1) + (1,)
                self.assertEqual(self.told(round_of, generator, start), (0, power))

    def test_great_rounds(self):
        """Held against jumps: the state comes again behind the length, and behind no part of it by a prime."""
        for base in BASES:
            for seed in range(5):
                generator = made_generator(("great", seed), base, 12, 1)
                start = made_rows(("great", seed), base, 1, 12)[0]
                ahead, length = self.told(round_of, generator, start) if seed == 0 else round_of(generator, start)
                state = jumped(generator, start, ahead)
                self.assertEqual(jumped(generator, state, length), state)
                if ahead:
                    before = jumped(generator, start, ahead - 1)
                    self.assertNotEqual(jumped(generator, before, length), before)
                for prime in primes_of(length):
                    self.assertNotEqual(jumped(generator, state, length // prime), state)

    def test_one_round(self):
        for generator in ALL_SMALL:
            size = size_of(generator)
            states = [state for state in states_of(generator) if any(state)]
            wanted = all(
                searched_round(generator, state) == (0, generator[0] ** size - 1) for state in states)
            self.assertIs(self.told(is_one_round, generator), wanted)
        for base, last in FULL_ROUNDS:
            self.assertIs(self.told(is_one_round, companion(base, last)), True)

    def test_great_one_rounds(self):
        # x^12 + x^6 + x^4 + x + 1 has roots of the order 2^12 - 1, x^12 + .. + 1 has not.
        self.assertIs(self.told(is_one_round, companion(2, (1, 1, 0, 0, 1, 0, 1, 0, 0, 0, 0, 0))), True)
        self.assertEqual(
            self.told(round_of, companion(2, (1, 1, 0, 0, 1, 0, 1, 0, 0, 0, 0, 0)), (0,) * 11 + (1,)), (0, 4095))
        self.assertIs(self.told(is_one_round, companion(2, (1,) * 12)), False)
        self.assertIs(self.told(is_one_round, shifting(7, 12)), False)

    def test_wrong_arguments(self):
        self.check_wrong(round_of, (GOLD, (1, 0)), WRONG_GENERATORS, WRONG_STATES)
        self.check_wrong(is_one_round, (GOLD,), WRONG_GENERATORS)


class SameStreams(Calls):
    def pairs(self):
        """Pairs of generators of one base with as many figures in an answer."""
        for base in BASES:
            some = [one for one in small_generators(base) if base ** size_of(one) < 40]
            for at, generator in enumerate(some):
                for other in some[at % 5::5] + [generator]:
                    if len(generator[2]) == len(other[2]):
                        yield generator, other

    def test_by_long_streams(self):
        found = set()
        for generator, other in self.pairs():
            long = [{start: answers(one, start, 40) for start in states_of(one)} for one in (generator, other)]
            for start in states_of(generator)[::3]:
                for begin in states_of(other)[::3]:
                    wanted = long[0][start] == long[1][begin]
                    self.assertIs(are_same_streams(generator, start, other, begin), wanted)
                    found.add((wanted, generator == other))
            self.told(are_same_streams, generator, start, other, begin)
        self.assertEqual(len(found), 4)

    def test_streams_that_are_unlike_only_at_last(self):
        # Of shifted figures the last one alone is unlike; streams with n figures more are unlike only there.
        for base in BASES:
            for size in (1, 2, 7, 12):
                start = (1,) * size
                other = start[:-1] + (0,)
                self.assertIs(self.told(are_same_streams, shifting(base, size), start, shifting(base, size), other), False)
            # m figures, then all noughts, and a round of m + n - 1 noughts with a 1 behind them.
            one, ring = shifting(base, 5), companion(base, (1,) + (0,) * 6)
            self.assertIs(self.told(are_same_streams, one, (0,) * 5, ring, (0,) * 6 + (1,)), False)
            self.assertIs(self.told(are_same_streams, one, (0,) * 5, ring, (0,) * 7), True)

    def test_strays(self):
        found = set()
        for generator, other in self.pairs():
            streams = {answers(other, begin, 40) for begin in states_of(other)}
            stray = {start for start in states_of(generator) if answers(generator, start, 40) not in streams}
            told = self.told(stray_start, generator, other)
            self.assertIs(told is None, not stray)
            if stray:
                self.assertIn(told, stray)
            found.add((bool(stray), generator == other))
        self.assertEqual(found, {(True, False), (False, False), (False, True)})

    def test_large_generators(self):
        for base in BASES:
            generator, start = made_generator("same", base, 12, 12), made_rows("same", base, 1, 12)[0]
            other = made_generator("other", base, 12, 12)
            self.assertIs(self.told(are_same_streams, generator, start, generator, start), True)
            self.assertIs(self.told(are_same_streams, generator, start, other, start), False)
            self.assertIs(self.told(are_same_streams, generator, (0,) * 12, other, (0,) * 12), True)
            self.assertIsNone(self.told(stray_start, generator, generator))
            stray = self.told(stray_start, generator, other)
            self.assertEqual(len(stray), 12)
            self.assertIsNone(self.told(stray_start, (base, ((1,),), table_of(12, 1, 0)), other))

    def test_more_windows_than_a_net_may_have_dimensions(self):
        # The streams are alike for 23 answers, and unlike at the 24th one, or at none.
        ring, line = companion(2, (1,) + (0,) * 11), companion(2, (0,) * 12)
        self.assertEqual(self.told(stray_start, line, line), None)
        self.assertIsNotNone(self.told(stray_start, line, ring))
        self.assertIsNotNone(self.told(stray_start, ring, line))

    def test_unlike(self):
        for other in ((3, GOLD[1], GOLD[2]), (2, GOLD[1], unit_table(2, 2)), (3, GOLD[1], unit_table(2, 2))):
            self.told_nothing(UnlikeNets, are_same_streams, GOLD, (1, 0), other, (1, 0))
            self.told_nothing(UnlikeNets, are_same_streams, other, (1, 0), GOLD, (1, 0))
            self.told_nothing(UnlikeNets, stray_start, GOLD, other)
            self.told_nothing(UnlikeNets, stray_start, other, GOLD)
        # Their states may have unlike numbers of figures.
        self.told(are_same_streams, GOLD, (1, 0), shifting(2, 7), (0,) * 7)

    def test_wrong_arguments(self):
        self.check_wrong(
            are_same_streams, (GOLD, (1, 0), CALM, (0, 1)), WRONG_GENERATORS, WRONG_STATES, WRONG_GENERATORS,
            WRONG_STATES)
        self.check_wrong(stray_start, (GOLD, CALM), WRONG_GENERATORS, WRONG_GENERATORS)

    def test_which_argument_is_wrong(self):
        other = shifting(3, 3, 2)
        self.refused(InvalidStart, (1, 0), are_same_streams, GOLD, (1, 1), other, (1, 0))
        self.refused(InvalidStart, (0, 0, 2), are_same_streams, GOLD, (0, 0, 2), other, (0, 0, 2))
        self.refused(InvalidStart, (0, 0, 3), are_same_streams, GOLD, (1, 1), other, (0, 0, 3))
        wrong = put(other, (0,), 4)
        self.refused(InvalidGenerator, wrong, are_same_streams, GOLD, (1, 1), wrong, None)
        self.told_nothing(UnlikeNets, are_same_streams, GOLD, (1, 1), other, (0, 0, 2))


if __name__ == "__main__":
    unittest.main()
