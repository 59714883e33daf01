"""Points 21 to 23, and evennets/news.py: nets put together, stacked, cut, stretched, scrambled and led."""

import itertools
import random
import unittest

from evennets.duals import are_same_points, is_dual
from evennets.errors import (
    InvalidIndex, InvalidNet, InvalidNumber, InvalidRows, InvalidTable, InvalidTables, NotEven, NotRegular, TooMany,
    UnlikeNets)
from evennets.evens import strength
from evennets.nets import is_net
from evennets.news import cut_depth, led_starts, put_together, scrambled, stacked, stretched, with_dimensions
from evennets.shapes import shape_counts
from tests.checks import Calls, given, indexed
from tests.samples import BASES, all_rows, any_values, made_net, made_rows, never_numbers, put, table_of, wrong_nets
from tests.searches import (
    all_boxes, all_depths, all_words, begun, points_by_starts, poor_net, rows_of, searched_dual, searched_shape,
    sizes_of, slow_rank, small_nets, unit_table)

UNIT, TURNED = ((1, 0), (0, 1)), ((0, 1), (1, 0))
BITS, FLAT = (2, (UNIT, TURNED)), (2, (UNIT, UNIT))
ALL_SMALL = [net for base in BASES for net in small_nets(base)]
WRONG_NETS = given(InvalidNet, wrong_nets() + any_values())
OF_BOTH = (put_together, stacked)


def points(net):
    return [point for _, point in points_by_starts(net)]


def point_of(net):
    """The points by their starts."""
    return dict(points_by_starts(net))


def weights(dual):
    """The stair weights of the words other than nought."""
    return [sum(searched_shape(word)) for word in dual if any(map(any, word))]


def is_free(net):
    return slow_rank(net[0], rows_of(net)) == len(rows_of(net))


def least_weight(net):
    """By point 10 one more than the strength, if some word other than nought is a dual word."""
    return None if is_free(net) else strength(net) + 1


def small_pairs(alike):
    """Pairs of small nets of one base and depth, and as many dimensions if these are to be alike."""
    pairs = []
    for base, sizes in (
            (2, ((1, 2, 2), (2, 2, 1), (1, 2, 4), (2, 2, 3), (1, 1, 1), (2, 1, 2), (1, 3, 2))),
            (3, ((1, 2, 1), (1, 2, 2), (1, 1, 2), (2, 1, 1))), (5, ((1, 1, 1), (1, 2, 1))), (7, ((1, 1, 2), (1, 1, 1)))):
        nets = [kind("pair", base, *one) for one in sizes for kind in (made_net, poor_net)]
        nets += [(base, (unit_table(depth, width),) * dimensions) for dimensions, depth, width in sizes]
        for net, other in itertools.product(nets, repeat=2):
            if sizes_of(net)[1] == sizes_of(other)[1] and (not alike or sizes_of(net)[0] == sizes_of(other)[0]):
                pairs.append((net, other))
    return pairs


class PutTogether(Calls):
    def test_points_and_starts(self):
        for net, other in small_pairs(False):
            both = self.told(put_together, net, other)
            self.assertTrue(is_net(both))
            first, second = point_of(net), point_of(other)
            for start, point in points_by_starts(both):
                width = sizes_of(net)[2]
                self.assertEqual(point, first[start[:width]] + second[start[width:]])

    def test_dual_words_and_strength(self):
        for net, other in small_pairs(False):
            both = put_together(net, other)
            first, second = searched_dual(net), searched_dual(other)
            if len(all_words(both)) <= 512:
                self.assertEqual(searched_dual(both), [one + more for one in first for more in second])
            strengths = [strength(one) for one, dual in ((net, first), (other, second)) if len(dual) > 1]
            self.assertEqual(strength(both), min(strengths, default=len(rows_of(both))))

    def test_up_to_six_dimensions_and_a_width_of_12(self):
        for base in BASES:
            for dimensions in range(1, 6):
                for width in (1, 5, 6, 11):
                    net = made_net("first", base, dimensions, 3, width)
                    other = made_net("second", base, 6 - dimensions, 3, 12 - width)
                    both = self.told(put_together, net, other)
                    self.assertTrue(is_net(both))
                    self.assertEqual(sizes_of(both), (6, 3, 12))

    def test_too_many(self):
        for base in BASES:
            for first, second, width, further in ((1, 6, 1, 1), (6, 6, 12, 12), (4, 3, 6, 7), (6, 1, 12, 1)):
                net, other = made_net("a", base, first, 2, width), made_net("b", base, second, 2, further)
                self.told_number(TooMany, "given", first + second, put_together, net, other)
            for first, second, width, further in ((1, 1, 12, 1), (3, 3, 12, 12), (1, 5, 6, 7), (4, 2, 1, 12)):
                net, other = made_net("a", base, first, 2, width), made_net("b", base, second, 2, further)
                self.told_number(TooMany, "given", width + further, put_together, net, other)

    def test_unlike_nets(self):
        for net, other in (
                (BITS, (3, (UNIT, TURNED))), (BITS, (2, (((1, 0),),) * 2)), ((2, (unit_table(12, 12),)), (2, (UNIT,))),
                (BITS, (3, (table_of(2, 12),) * 6)), (BITS, (2, (table_of(12, 12),) * 6))):
            self.told_nothing(UnlikeNets, put_together, net, other)
            self.told_nothing(UnlikeNets, put_together, other, net)
        # The numbers of dimensions and the widths may be unlike.
        self.told(put_together, BITS, (2, (table_of(2, 10),) * 4))

    def test_by_hand(self):
        self.assertEqual(
            self.told(put_together, (5, (((1,),),)), (5, (((2, 3),), ((0, 4),)))),
            (5, (((1, 0, 0),), ((0, 2, 3),), ((0, 0, 4),))))


class Stacked(Calls):
    def test_dual_words(self):
        for net, other in small_pairs(True):
            both = self.told(stacked, net, other)
            self.assertTrue(is_net(both))
            self.assertEqual(sizes_of(both)[0], 2 * sizes_of(net)[0])
            base = net[0]
            wanted = []
            for u, v in itertools.product(searched_dual(net), searched_dual(other)):
                summed = tuple(tuple((a + b) % base for a, b in zip(one, more)) for one, more in zip(u, v))
                wanted.append(u + summed)
                self.assertTrue(is_dual(both, u + summed))
            if len(all_words(both)) <= 512:
                self.assertEqual(searched_dual(both), sorted(wanted))
            rank = slow_rank(base, rows_of(both))
            self.assertEqual(len(wanted), base ** (len(rows_of(both)) - rank))

    def test_points(self):
        for net, other in small_pairs(True):
            both, base = stacked(net, other), net[0]
            wanted = {
                tuple(tuple((a - b) % base for a, b in zip(one, more)) for one, more in zip(x, y)) + y
                for x in points(net) for y in points(other)}
            self.assertEqual(set(points(both)), wanted)

    def test_least_stair_weight(self):
        for net, other in small_pairs(True):
            first, second = weights(searched_dual(net)), weights(searched_dual(other))
            wanted = min([2 * one for one in first] + second, default=None)
            self.assertEqual(least_weight(stacked(net, other)), wanted)

    def test_rows_as_written(self):
        self.assertEqual(
            self.told(stacked, (5, (((1, 0), (2, 3)),)), (5, (((1,), (4,)),))),
            (5, (((1, 0, 4), (2, 3, 1)), ((0, 0, 1), (0, 0, 4)))))
        for base in BASES:
            net, other = made_net("x", base, 3, 4, 5), made_net("y", base, 3, 4, 7)
            tables = [
                tuple(row + tuple(-figure % base for figure in less) for row, less in zip(table, more))
                for table, more in zip(net[1], other[1])]
            tables += [tuple((0,) * 5 + row for row in table) for table in other[1]]
            self.assertEqual(self.told(stacked, net, other), (base, tuple(tables)))

    def test_too_many(self):
        for base in BASES:
            for dimensions, width, further in ((4, 1, 1), (6, 12, 12), (5, 6, 7)):
                net, other = made_net("a", base, dimensions, 2, width), made_net("b", base, dimensions, 2, further)
                self.told_number(TooMany, "given", 2 * dimensions, stacked, net, other)
            for dimensions, width, further in ((3, 12, 1), (1, 12, 12), (2, 6, 7)):
                net, other = made_net("a", base, dimensions, 2, width), made_net("b", base, dimensions, 2, further)
                self.told_number(TooMany, "given", width + further, stacked, net, other)
            net = self.told(stacked, made_net("a", base, 3, 12, 6), made_net("b", base, 3, 12, 6))
            self.assertEqual(sizes_of(net), (6, 12, 12))

    def test_unlike_nets(self):
        for net, other in (
                (BITS, (3, (UNIT, TURNED))), (BITS, (2, (((1, 0),),) * 2)), (BITS, (2, (UNIT,))), (BITS, (2, (UNIT,) * 6)),
                ((2, (table_of(2, 12),) * 6), (2, (table_of(2, 12),) * 5)), (BITS, (3, (table_of(2, 12),) * 2))):
            self.told_nothing(UnlikeNets, stacked, net, other)
            self.told_nothing(UnlikeNets, stacked, other, net)


class Left(Calls):
    def test_dimensions(self):
        for net in ALL_SMALL:
            many = len(net[1])
            for count in range(1, many + 1):
                for some in list(itertools.permutations(range(many), count))[:30]:
                    kept = self.told(with_dimensions, net, some)
                    self.assertEqual(kept, (net[0], tuple(net[1][at] for at in some)))
                    self.assertTrue(strength(kept) >= strength(net) or is_free(kept))

    def test_wrong_dimensions(self):
        net = made_net("wrong", 3, 4, 2, 2)
        no_tuple = [(value, None) for value in any_values() if not isinstance(value, tuple)] + [((), None), ([0], None)]
        first = [((wrong, 0), 0) for wrong in never_numbers(0, 3)]
        third = [((3, 0, wrong, 9), 2) for wrong in never_numbers(0, 3)]
        again = [
            ((0, 0), 1), ((1, 2, 1), 2), ((3, 2, 1, 0, 3), 4), ((0, 1, 2, 3, 0), 4), ((0, 1, 2, 3, 4), 4), ((2, 2, None), 1),
            ((1, 4, 1), 1), ((0, -1), 1), ((3, 3, 3), 1), ((0,) * 60, 1)]
        self.check_wrong(
            with_dimensions, (net, (2, 0)), WRONG_NETS, indexed(InvalidRows, *no_tuple, *first, *third, *again))

    def test_depths(self):
        for net in ALL_SMALL:
            depth, dual = sizes_of(net)[1], searched_dual(net)
            for less in range(1, depth + 1):
                cut = self.told(cut_depth, net, less)
                self.assertEqual(cut, (net[0], tuple(table[:less] for table in net[1])))
                wanted = [
                    tuple(part[:less] for part in word) for word in dual if max(searched_shape(word)) <= less]
                self.assertEqual(searched_dual(cut), sorted(wanted))

    def test_wrong_depths(self):
        for net in (BITS, made_net("wrong", 5, 3, 12, 2), (2, (((1, 0, 1, 1),),))):
            depth = sizes_of(net)[1]
            self.check_wrong(cut_depth, (net, depth), WRONG_NETS, given(InvalidNumber, never_numbers(1, depth)))


class Stretched(Calls):
    def stretches(self):
        """All small nets, each dimension and number, and whether the first rows are free."""
        for net in ALL_SMALL:
            dimensions, depth, width = sizes_of(net)
            for dimension in range(dimensions):
                for number in range(min(depth, width)):
                    free = slow_rank(net[0], net[1][dimension][:number]) == number if number else True
                    yield net, dimension, number, free

    def test_points(self):
        for net, dimension, number, free in self.stretches():
            if not free:
                self.told_nothing(NotEven, stretched, net, dimension, number)
                continue
            base, (_, depth, width) = net[0], sizes_of(net)
            kept = self.told(stretched, net, dimension, number)
            self.assertTrue(is_net(kept))
            self.assertEqual(sizes_of(kept), (len(net[1]), depth - number, width - number))
            left = [
                tuple(figures[number:] if at == dimension else figures[:depth - number] for at, figures in enumerate(point))
                for point in points(net) if not any(point[dimension][:number])]
            self.assertEqual(sorted(points(kept)), sorted(left))
            self.assertTrue(strength(kept) >= strength(net) - number or is_free(kept))

    def test_starts_in_stairs(self):
        for net, dimension, number, free in self.stretches():
            if free:
                base, (_, depth, width) = net[0], sizes_of(net)
                starts = [start for start, point in points_by_starts(net) if not any(point[dimension][:number])]
                stairs = self.searched_stairs(base, starts, width - number)
                tables = []
                for at, table in enumerate(net[1]):
                    rows = table[number:] if at == dimension else table[:depth - number]
                    tables.append(tuple(
                        tuple(sum(a * b for a, b in zip(row, one)) % base for one in stairs) for row in rows))
                self.assertEqual(stretched(net, dimension, number), (base, tuple(tables)))

    def searched_stairs(self, base, starts, many):
        """The base in stairs of all these starts, which hold all their sums: found by what its rows are."""
        leads = sorted({next(at for at, figure in enumerate(start) if figure) for start in starts if any(start)})
        self.assertEqual(len(leads), many)
        return [
            next(start for start in starts if all(start[other] == int(other == at) for other in leads)) for at in leads]

    def test_by_none_is_the_net_itself(self):
        for net in ALL_SMALL + [made_net("none", 7, 6, 12, 12)]:
            for dimension in range(len(net[1])):
                self.assertEqual(self.told(stretched, net, dimension, 0), net)

    def test_large_nets(self):
        for base in BASES:
            net = (base, (unit_table(12, 12), unit_table(12, 12, 11), table_of(12, 12)))
            self.assertEqual(sizes_of(self.told(stretched, net, 0, 11)), (3, 1, 1))
            self.assertEqual(stretched(net, 0, 11), (base, (((1,),), ((1,),), ((1,),))))
            self.assertEqual(stretched(net, 1, 11), (base, (((0,),), ((1,),), ((1,),))))
            self.assertEqual(sizes_of(stretched(net, 2, 1)), (3, 11, 11))
            for number in range(2, 12):
                self.told_nothing(NotEven, stretched, net, 2, number)

    def test_wrong_arguments(self):
        self.check_wrong(
            stretched, (made_net("wrong", 3, 3, 4, 3), 1, 2), WRONG_NETS, given(InvalidIndex, never_numbers(0, 2)),
            given(InvalidNumber, never_numbers(0, 2)))
        self.check_wrong(
            stretched, (made_net("wrong", 5, 1, 2, 4), 0, 1), WRONG_NETS, given(InvalidIndex, never_numbers(0, 0)),
            given(InvalidNumber, never_numbers(0, 1)))

    def test_bound_rows_behind_wrong_numbers(self):
        net = (2, (table_of(4, 3, 0), UNIT + UNIT)[:1] + (((1, 0, 0), (0, 1, 0), (1, 1, 0), (0, 0, 1)),))
        for number in (1, 2):
            self.told_nothing(NotEven, stretched, net, 0, number)
        self.refused(InvalidNumber, 3, stretched, net, 0, 3)
        self.refused(InvalidIndex, 2, stretched, net, 2, 3)
        self.assertEqual(self.told(stretched, net, 0, 0), net)
        self.assertEqual(self.told(stretched, net, 1, 2), (2, (((0,), (0,)), ((0,), (1,)))))


def made_lower(seed, base, depth):
    chance = random.Random(repr((seed, base, depth)))
    return tuple(
        tuple(chance.randrange(base) if c < j else chance.randrange(1, base) if c == j else 0 for c in range(depth))
        for j in range(depth))


class Scrambled(Calls):
    def test_rows(self):
        for number, net in enumerate(ALL_SMALL):
            base, depth = net[0], sizes_of(net)[1]
            lowers = tuple(made_lower((number, at), base, depth) for at in range(len(net[1])))
            tables = tuple(
                tuple(tuple(sum(a * row[c] for a, row in zip(lower[j], table)) % base for c in range(len(table[0])))
                      for j in range(depth)) for lower, table in zip(lowers, net[1]))
            self.assertEqual(self.told(scrambled, net, lowers), (base, tables))

    def test_boxes_are_led_to_boxes_and_shapes_stay(self):
        for number, net in enumerate(ALL_SMALL):
            base, depth = net[0], sizes_of(net)[1]
            lowers = tuple(made_lower((number, at), base, depth) for at in range(len(net[1])))
            new = scrambled(net, lowers)
            self.assertTrue(is_net(new))
            self.assertEqual(shape_counts(new), shape_counts(net))
            for depths in all_depths(net)[::3]:
                led = {}
                for old, point in zip(points(net), points(new)):
                    led.setdefault(begun(old, depths), set()).add(begun(point, depths))
                self.assertTrue(all(len(boxes) == 1 for boxes in led.values()))
                for old, (box,) in led.items():
                    self.assertEqual(
                        [begun(point, depths) for point in points(net)].count(old),
                        [begun(point, depths) for point in points(new)].count(box))

    def test_all_boxes_of_some_depths(self):
        net = made_net("boxes", 2, 2, 3, 4)
        new = scrambled(net, (made_lower("a", 2, 3), made_lower("b", 2, 3)))
        for depths in all_depths(net):
            counts = [
                sorted([begun(point, depths) for point in points(one)].count(box) for box in all_boxes(net, depths))
                for one in (net, new)]
            self.assertEqual(counts[0], counts[1])

    def test_units_change_nothing(self):
        for base in BASES:
            net = made_net("units", base, 6, 12, 12)
            self.assertEqual(self.told(scrambled, net, (unit_table(12, 12),) * 6), net)

    def test_wrong_arguments(self):
        net = made_net("wrong", 3, 2, 2, 3)
        right = ((2, 0), (1, 1))
        wrong_ones = any_values() + [
            ((2, 1), (1, 1)), ((0, 0), (1, 1)), ((2, 0), (1, 0)), ((2, 0),), ((2, 0),) * 3, ((2,), (1, 1)),
            ((2, 0), (1, 1, 0)), ((2, 0, 0), (1, 1, 0)), ((3, 0), (1, 1)), ((2, 0), (-1, 1)), ((True, 0), (1, 1)),
            ((2, False), (1, 1)), [(2, 0), (1, 1)], ([2, 0], (1, 1)), ((2, None), (1, 1)), ((2, 0, 0), (1, 1, 0), (0, 0, 1)),
            ((1, 0, 0), (0, 1, 0)), ("20", "11")]
        no_tuple = [(value, None) for value in any_values() if not (isinstance(value, tuple) and len(value) == 2)]
        no_tuple += [((right,), None), ((right,) * 3, None), ([right, right], None)]
        self.check_wrong(
            scrambled, (net, (right, right)), WRONG_NETS,
            indexed(
                InvalidTables, *no_tuple, *[((one, right), 0) for one in wrong_ones],
                *[((right, one), 1) for one in wrong_ones], *[((one, None), 0) for one in wrong_ones]))


class LedStarts(Calls):
    def regular(self, base, width):
        """Some tables with free rows, and some with bound ones."""
        tables = [made_rows((at, "led"), base, width, width) for at in range(6)] + [unit_table(width, width, 1)]
        return [table for table in tables if slow_rank(base, table) == width], [
            table for table in tables if slow_rank(base, table) < width] + [table_of(width, width, 0)]

    def test_the_points_stay(self):
        for net in ALL_SMALL:
            base, width = net[0], sizes_of(net)[2]
            regular, bound = self.regular(base, width)
            for table in regular:
                led = self.told(led_starts, net, table)
                self.assertEqual(sorted(points(led)), sorted(points(net)))
                self.assertTrue(are_same_points(net, led))
                rows = [
                    tuple(sum(row[b] * table[b][c] for b in range(width)) % base for c in range(width))
                    for row in rows_of(net)]
                self.assertEqual(rows_of(led), rows)
            for table in bound:
                self.told_nothing(NotRegular, led_starts, net, table)

    def test_which_start_is_led_where(self):
        net, table = made_net("led", 3, 2, 2, 3), ((1, 2, 0), (0, 1, 1), (2, 0, 1))
        old, new = point_of(net), point_of(led_starts(net, table))
        for start in all_rows(3, 3):
            moved = tuple(sum(a * b for a, b in zip(row, start)) % 3 for row in table)
            self.assertEqual(new[start], old[moved])

    def test_large_nets(self):
        for base in BASES:
            net = made_net("led", base, 6, 12, 12)
            self.assertEqual(self.told(led_starts, net, unit_table(12, 12)), net)
            self.told_nothing(NotRegular, led_starts, net, table_of(12, 12))

    def test_wrong_arguments(self):
        for width in (1, 3):
            net = made_net("wrong", 3, 2, 2, width)
            right = unit_table(width, width)
            wrong = any_values() + [
                right + right[:1], right[1:], list(right), tuple(map(list, right)), tuple(row + (0,) for row in right),
                put(right, (0, 0), 3), put(right, (width - 1, 0), -1), put(right, (0, 0), True), put(right, (0, 0), None),
                put(right, (0, width - 1), "0"), put(right, (width - 1,), ()), ((0,) * 2,) * 2, (0,) * width]
            self.check_wrong(led_starts, (net, right), WRONG_NETS, given(InvalidTable, wrong))


class BothWrong(Calls):
    def test_wrong_nets(self):
        for function in OF_BOTH:
            self.check_wrong(function, (BITS, FLAT), WRONG_NETS, WRONG_NETS)

    def test_wrong_nets_ahead_of_unlike_ones(self):
        for function in OF_BOTH:
            self.refused(InvalidNet, None, function, (3, (UNIT,)), None)
            self.refused(InvalidNet, (4, ()), function, (4, ()), (3, (UNIT,)))

    def test_unlike_ahead_of_too_many(self):
        wide = (2, (table_of(2, 12),) * 6)
        self.told_nothing(UnlikeNets, put_together, wide, (3, (table_of(2, 12),) * 6))
        self.told_nothing(UnlikeNets, put_together, wide, (2, (table_of(3, 12),) * 6))
        self.told_nothing(UnlikeNets, stacked, wide, (2, (table_of(2, 12),) * 5))


if __name__ == "__main__":
    unittest.main()
