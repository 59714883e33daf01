"""Points 15 and 16, and evennets/bounds.py: balls, what no net can be, and nets that grow."""

import itertools
import random
import unittest

from evennets.bounds import ball_size, barred_by, grown_net, will_grow
from evennets.errors import InvalidBase, InvalidNumber, TooMany
from evennets.evens import strength
from evennets.nets import is_net
from tests.checks import Calls, given
from tests.samples import BASES, all_rows, never_bases, never_numbers, sum_of
from tests.searches import depths_of_size, rows_of, searched_shape, sizes_of, slow_rank

# By base the greatest width of a net with up to 4096 starts.
GREATEST = {2: 12, 3: 7, 5: 5, 7: 4}
OF_SIZES = (barred_by, will_grow, grown_net)
WRONG_BASES, WRONG_NUMBERS = given(InvalidBase, never_bases()), given(InvalidNumber, never_numbers(1, 12))
WRONG_DIMENSIONS = given(InvalidNumber, never_numbers(1, 6))


def words_of(base, dimensions, depth):
    """All words, as rows of tuples."""
    return itertools.product(list(all_rows(base, depth)), repeat=dimensions)


def summed_ball(base, dimensions, depth, weight):
    """The size of a ball, shape by shape."""
    total = 0
    for shape in itertools.product(range(depth + 1), repeat=dimensions):
        if sum(shape) <= weight:
            many = 1
            for one in shape:
                many *= (base ** one - base ** (one - 1)) if one else 1
            total += many
    return total


def reason(base, width, dimensions, size):
    """What bars, by the words of point 15."""
    if size > width:
        return "width"
    if size >= 2 and dimensions * (base - 1) > base ** (width - size + 2) - 1:
        return "lines"
    return "ball" if summed_ball(base, dimensions, size, size // 2) > base ** width else None


def number_of(base, row):
    return sum(figure * base ** at for at, figure in enumerate(row))


def barred_rows(base, width, tables, rows, size):
    """The rows that are barred behind whole tables and some rows of a further one, by the words of point 16."""
    bound = size - len(rows) - 1
    known = [row for table in tables for row in table]
    words = [word for word in words_of(base, len(tables), size) if sum(searched_shape(word)) <= bound]
    barred = set()
    for word in words:
        factors = tuple(itertools.chain(*word))
        for own in all_rows(base, len(rows)):
            barred.add(sum_of(base, factors + own, known + list(rows)) if known or rows else (0,) * width)
    return barred


def grown_by(base, width, dimensions, size, chosen):
    """A net, of which each row is chosen from those that are not barred; None if all are; and how many were barred."""
    tables, counts = [], []
    for _ in range(dimensions):
        rows = []
        for _ in range(size):
            barred = barred_rows(base, width, tables, rows, size)
            counts.append(len(barred))
            free = sorted(set(all_rows(base, width)) - barred, key=lambda row: number_of(base, row))
            if not free:
                return None, counts
            rows.append(chosen(free))
        tables.append(tuple(rows))
    return (base, tuple(tables)), counts


def is_as_strong(net, size):
    """Whether all depths of the size are even, found by ranks."""
    return all(slow_rank(net[0], rows_of(net, depths)) == size for depths in depths_of_size(net, size))


SMALL = [
    (base, width, dimensions, size)
    for base, widths, most in ((2, 5, 4096), (3, 3, 4096), (5, 2, 4096), (7, 2, 4096))
    for width in range(1, widths + 1) for dimensions in range(1, 6) for size in range(1, 5)
    if base ** ((dimensions - 1) * size) * base ** (size - 1) <= most]


class Balls(Calls):
    def test_counted_words(self):
        for base, dimensions, depth in (
                (2, 1, 1), (2, 1, 5), (2, 2, 3), (2, 3, 3), (2, 6, 2), (2, 6, 1), (3, 2, 2), (3, 1, 4), (3, 4, 2), (3, 6, 1),
                (5, 1, 3), (5, 2, 2), (5, 4, 1), (7, 1, 2), (7, 2, 2), (7, 3, 1)):
            weights = [sum(searched_shape(word)) for word in words_of(base, dimensions, depth)]
            for weight in range(dimensions * depth + 3):
                self.assertEqual(
                    self.told(ball_size, base, dimensions, depth, weight), sum(one <= weight for one in weights))

    def test_all_words_at_the_greatest_weight_and_above(self):
        for base in BASES:
            for dimensions in range(1, 7):
                for depth in range(1, 13):
                    most = dimensions * depth
                    for weight in {most, min(most + 1, 72), 72}:
                        self.assertEqual(ball_size(base, dimensions, depth, weight), base ** most)
                    top = (base ** depth - base ** (depth - 1)) ** dimensions
                    self.assertEqual(ball_size(base, dimensions, depth, most - 1), base ** most - top)
                    self.assertEqual(ball_size(base, dimensions, depth, 0), 1)
                    self.assertEqual(ball_size(base, dimensions, depth, 1), 1 + dimensions * (base - 1))
        self.assertEqual(self.told(ball_size, 7, 6, 12, 72), 7 ** 72)

    def test_shape_by_shape(self):
        for base in BASES:
            for dimensions, depth in ((3, 12), (4, 6), (6, 3)):
                for weight in (0, 1, 2, 5, 11, 17):
                    wanted = summed_ball(base, dimensions, depth, weight)
                    self.assertEqual(self.told(ball_size, base, dimensions, depth, weight), wanted)

    def test_wrong_arguments(self):
        self.check_wrong(
            ball_size, (3, 2, 2, 2), WRONG_BASES, WRONG_DIMENSIONS, WRONG_NUMBERS,
            given(InvalidNumber, never_numbers(0, 72)))


class Barred(Calls):
    def test_by_the_words_of_the_document(self):
        found = set()
        for base in BASES:
            for width in range(1, 13):
                for dimensions in range(1, 7):
                    for size in range(1, 6 if dimensions > 4 else 13 if dimensions < 4 else 9):
                        wanted = reason(base, width, dimensions, size)
                        self.assertEqual(barred_by(base, width, dimensions, size), wanted)
                        found.add(wanted)
        self.assertEqual(found, {"width", "lines", "ball", None})

    def test_all_ways_of_calling(self):
        for arguments in ((2, 2, 3, 2), (2, 2, 4, 2), (2, 3, 3, 4), (2, 5, 6, 4), (7, 12, 6, 12), (2, 1, 6, 1), (2, 11, 6, 12)):
            self.assertEqual(self.told(barred_by, *arguments), reason(*arguments))

    def test_edges(self):
        for base in BASES:
            for width in range(1, 12):
                self.assertEqual(barred_by(base, width, 1, width), None)
                self.assertEqual(barred_by(base, width, 1, width + 1), "width")
                self.assertEqual(barred_by(base, width, 6, width + 1), "width")
        # With a strength of 1 any number of lines is let: all first rows may be the same.
        self.assertEqual([barred_by(2, 1, dimensions, 1) for dimensions in range(1, 7)], [None] * 6)
        self.assertEqual([barred_by(2, 2, dimensions, 2) for dimensions in (3, 4)], [None, "lines"])
        self.assertEqual([barred_by(3, 2, dimensions, 2) for dimensions in (4, 5)], [None, "lines"])
        self.assertEqual([barred_by(5, 2, dimensions, 2) for dimensions in (5, 6)], [None, None])
        self.assertEqual([barred_by(2, 12, dimensions, 12) for dimensions in (3, 4)], [None, "lines"])

    def test_no_net_that_is_barred_is_found_by_a_walk_over_all(self):
        for width, dimensions, size in (
                (1, 1, 1), (1, 2, 1), (1, 1, 2), (2, 1, 2), (2, 2, 2), (2, 3, 2), (2, 4, 2), (1, 2, 2), (2, 1, 3), (3, 2, 3)):
            rows = list(all_rows(2, width))
            found = False
            for some in itertools.product(rows, repeat=dimensions * size):
                if not found:
                    net = (2, tuple(some[at * size:(at + 1) * size] for at in range(dimensions)))
                    found = is_as_strong(net, size)
            if barred_by(2, width, dimensions, size) is not None:
                self.assertFalse(found)
            if will_grow(2, width, dimensions, size):
                self.assertTrue(found)

    def test_bounds_hold_for_nets_that_there_are(self):
        for arguments in SMALL:
            net = grown_net(*arguments)
            if net is not None:
                self.assertIsNone(barred_by(*arguments), arguments)
                base, width, dimensions, size = arguments
                self.assertLessEqual(ball_size(base, dimensions, size, size // 2), base ** width)


class Growing(Calls):
    def test_will_grow_by_the_words_of_the_document(self):
        found = set()
        for base in BASES:
            for width in range(1, 13):
                for dimensions in range(1, 7):
                    for size in range(1, 6 if dimensions > 4 else 9):
                        wanted = all(
                            base ** (j - 1) * (summed_ball(base, dimensions - 1, size, size - j)) < base ** width
                            for j in range(1, size + 1))
                        self.assertIs(will_grow(base, width, dimensions, size), wanted)
                        found.add((dimensions > 1, wanted))
        self.assertEqual(len(found), 4)

    def test_one_dimension_grows_up_to_the_width(self):
        for base in BASES:
            for width in range(1, 13):
                for size in range(1, 13):
                    self.assertIs(self.told(will_grow, base, width, 1, size), size <= width)

    def test_by_greed_against_a_walk_over_all_words(self):
        for arguments in SMALL:
            wanted, counts = grown_by(*arguments, lambda free: free[0])
            self.assertEqual(self.told(grown_net, *arguments), wanted, arguments)
            self.check_barred(arguments, counts)

    def check_barred(self, arguments, counts):
        """No more rows are barred than point 16 tells."""
        base, _, _, size = arguments
        for at, count in enumerate(counts):
            place = at % size + 1
            ball = ball_size(base, at // size, size, size - place) if at >= size else 1
            self.assertLessEqual(count, base ** (place - 1) * ball)

    def test_grown_nets_are_nets_and_as_strong(self):
        grown = 0
        for base in BASES:
            for width in range(1, GREATEST[base] + 1):
                for dimensions in (1, 2, 3, 6):
                    for size in range(1, min(width, 6) + 1):
                        net = grown_net(base, width, dimensions, size)
                        if net is None:
                            self.assertFalse(will_grow(base, width, dimensions, size))
                            continue
                        grown += 1
                        self.assertTrue(is_net(net))
                        self.assertEqual((net[0], *sizes_of(net)), (base, dimensions, size, width))
                        self.assertGreaterEqual(strength(net), size)
                        self.assertIsNone(barred_by(base, width, dimensions, size))
        self.assertGreater(grown, 60)

    def test_in_whatever_way(self):
        chance = random.Random("whatever")
        will = [arguments for arguments in SMALL if will_grow(*arguments)]
        self.assertGreater(len(will), 15)
        for arguments in will:
            for _ in range(3):
                net, counts = grown_by(*arguments, chance.choice)
                self.assertIsNotNone(net)
                self.assertTrue(is_as_strong(net, arguments[3]))
                self.check_barred(arguments, counts)

    def test_none_at_sizes_above_the_width(self):
        for base in BASES:
            for width in (1, 2, GREATEST[base]):
                for dimensions in (1, 6):
                    for size in range(width + 1, 13):
                        self.assertIsNone(self.told(grown_net, base, width, dimensions, size))

    def test_one_dimension_is_grown_with_units(self):
        for base in BASES:
            width = GREATEST[base]
            rows = tuple(tuple(int(at == place) for at in range(width)) for place in range(width))
            self.assertEqual(self.told(grown_net, base, width, 1, width), (base, (rows,)))

    def test_just_4096_rows(self):
        net = self.told(grown_net, 2, 12, 6, 3)
        self.assertGreaterEqual(strength(net), 3)
        self.assertEqual(sizes_of(net), (6, 3, 12))
        self.assertIsNone(self.told(grown_net, 2, 12, 6, 12))

    def test_too_many_rows(self):
        for base in (3, 5, 7):
            for width in range(GREATEST[base] + 1, 13):
                for dimensions, size in ((1, 1), (6, 12), (2, width)):
                    self.told_number(TooMany, "given", base ** width, grown_net, base, width, dimensions, size)
                    barred_by(base, width, dimensions, size)
                    will_grow(base, width, dimensions, size)
        # It is told whatever would be told otherwise, but behind wrong arguments.
        self.assertEqual(barred_by(3, 8, 1, 9), "width")
        self.told_number(TooMany, "given", 3 ** 8, grown_net, 3, 8, 1, 9)
        self.refused(InvalidNumber, 13, grown_net, 3, 12, 1, 13)
        self.refused(InvalidNumber, 7, grown_net, 3, 12, 7, 1)

    def test_wrong_arguments(self):
        for function in OF_SIZES:
            self.check_wrong(function, (3, 2, 2, 2), WRONG_BASES, WRONG_NUMBERS, WRONG_DIMENSIONS, WRONG_NUMBERS)

    def test_which_number_is_wrong(self):
        for function in OF_SIZES:
            for arguments, wrong in (((3, 13, 7, 13), 13), ((3, 12, 7, 13), 7), ((3, 12, 6, 14), 14), ((3, 0, 0, -1), 0)):
                self.refused(InvalidNumber, wrong, function, *arguments)


if __name__ == "__main__":
    unittest.main()
