"""Points 3 to 5, 9 and 10, and evennets/evens.py: even depths, their tops, strength and loss."""

import unittest
from math import comb

from evennets.errors import InvalidDepths, InvalidNet
from evennets.evens import empty_box, even_tops, is_even, loss, strength
from tests.checks import Calls
from tests.samples import BASES, any_values, made_net, put, table_of, wrong_nets
from tests.searches import (
    all_boxes, all_depths, begun, depths_of_size, is_within, points_by_starts, poor_net, rows_of, searched_shape,
    sizes_of, slow_rank, small_nets, unit_table, weighed)

WITH_DEPTHS, OF_NETS = (is_even, empty_box), (strength, loss, even_tops)
UNIT, TURNED = ((1, 0), (0, 1)), ((0, 1), (1, 0))
BITS, FLAT = (2, (UNIT, TURNED)), (2, (UNIT, UNIT))
ALL_SMALL = [net for base in BASES for net in small_nets(base)]


def counted_even(net):
    """All depths of which each box holds as many starts, by counting these, ascending."""
    points = [point for _, point in points_by_starts(net)]
    found = []
    for depths in all_depths(net):
        counts = {}
        for point in points:
            box = begun(point, depths)
            counts[box] = counts.get(box, 0) + 1
        if len(counts) == net[0] ** sum(depths) and len(set(counts.values())) == 1:
            found.append(depths)
    return found


def searched_strength(net, even):
    """The strength by the words of point 10, from all even depths."""
    dimensions, depth, width = sizes_of(net)
    sizes = range(min(width, dimensions * depth) + 1)
    return max(size for size in sizes if all(depths in even for depths in depths_of_size(net, size)))


def pascal(base, dimensions, width):
    """The net of point 26, whose strength is its width for up to `base` dimensions."""
    return base, tuple(
        tuple(tuple(comb(r, j) * i ** (r - j) % base if r >= j else 0 for r in range(width)) for j in range(width))
        for i in range(dimensions))


def padded(word, depth):
    return tuple(part + (0,) * (depth - len(part)) for part in word)


class SmallNets(Calls):
    def test_even_by_counts(self):
        for net in ALL_SMALL:
            even = counted_even(net)
            for depths in all_depths(net):
                self.assertIs(is_even(net, depths), depths in even, (net, depths))

    def test_tops_by_counts(self):
        for net in ALL_SMALL:
            even = counted_even(net)
            wanted = [one for one in even if not any(is_within(one, more) for more in even if more != one)]
            tops = self.told(even_tops, net)
            self.assertEqual(list(tops), wanted)
            self.assertEqual(list(tops), sorted(tops))
            self.assertFalse(any(is_within(a, b) for a in tops for b in tops if a != b))
            for depths in all_depths(net):
                self.assertIs(depths in even, any(is_within(depths, top) for top in tops))

    def test_strength_and_loss_by_counts(self):
        for net in ALL_SMALL:
            wanted = searched_strength(net, set(counted_even(net)))
            self.assertEqual(self.told(strength, net), wanted)
            self.assertEqual(self.told(loss, net), sizes_of(net)[2] - wanted)

    def test_empty_boxes_by_counts(self):
        for net in ALL_SMALL:
            points = [point for _, point in points_by_starts(net)]
            for depths in all_depths(net):
                found = empty_box(net, depths)
                self.assertIs(found is None, is_even(net, depths))
                if found is not None:
                    self.check_empty(net, depths, found, points)

    def check_empty(self, net, depths, found, points):
        base, depth = net[0], sizes_of(net)[1]
        self.assertEqual([type(found), len(found)], [tuple, 2])
        word, box = found
        self.check_kinds(found)
        self.assertEqual([len(part) for part in word], [depth] * len(depths))
        self.assertTrue(all(figure in range(base) for part in word for figure in part))
        self.assertTrue(any(any(part) for part in word))
        self.assertTrue(is_within(searched_shape(word), depths))
        self.assertEqual(tuple(len(figures) for figures in box), depths)
        self.assertTrue(all(figure in range(base) for part in box for figure in part))
        self.assertTrue(all(weighed(base, word, point) == 0 for point in points))
        self.assertNotEqual(weighed(base, word, padded(box, depth)), 0)
        self.assertNotIn(box, {begun(point, depths) for point in points})

    def test_as_many_starts_in_each_even_box(self):
        for base in BASES:
            net = small_nets(base)[0]
            for depths in all_depths(net):
                if is_even(net, depths):
                    points = [begun(point, depths) for _, point in points_by_starts(net)]
                    for box in all_boxes(net, depths):
                        self.assertEqual(points.count(box), base ** (sizes_of(net)[2] - sum(depths)))

    def test_all_ways_of_calling(self):
        for net in ALL_SMALL[::5]:
            for depths in all_depths(net)[:40]:
                self.told(is_even, net, depths)
                self.told(empty_box, net, depths)


class Bounds(Calls):
    def test_all_rows_free(self):
        for base in BASES:
            for dimensions, depth in ((1, 1), (1, 12), (2, 6), (3, 4), (6, 2), (4, 3), (6, 1), (5, 1)):
                for width in range(dimensions * depth, 13):
                    net = (base, tuple(unit_table(depth, width, depth * at) for at in range(dimensions)))
                    self.assertEqual(strength(net), dimensions * depth)
                    self.assertEqual(loss(net), width - dimensions * depth)
                    self.assertEqual(even_tops(net), ((depth,) * dimensions,))
                    self.assertIs(is_even(net, (depth,) * dimensions), True)
                    self.assertIsNone(empty_box(net, (depth,) * dimensions))

    def test_rows_of_noughts(self):
        for base in BASES:
            for dimensions, depth, width in ((1, 1, 1), (2, 3, 4), (6, 12, 12), (6, 1, 12), (1, 12, 1)):
                net = (base, (table_of(depth, width, 0),) * dimensions)
                self.assertEqual(self.told(strength, net), 0)
                self.assertEqual(self.told(loss, net), width)
                self.assertEqual(self.told(even_tops, net), ((0,) * dimensions,))
                self.assertIs(self.told(is_even, net, (0,) * dimensions), True)
                self.assertIsNone(self.told(empty_box, net, (0,) * dimensions))
                self.assertIs(self.told(is_even, net, (0,) * (dimensions - 1) + (1,)), False)

    def test_one_row_of_noughts(self):
        for base in BASES:
            for row in range(4):
                net = put((base, (unit_table(4, 4), unit_table(4, 4, 2))), (1, 1, row), (0,) * 4)
                self.assertEqual(strength(net), row)
                self.assertIs(is_even(net, (0, row)), True)
                self.assertIs(is_even(net, (0, row + 1)), False)

    def test_sizes_above_the_width_are_uneven(self):
        for base in BASES:
            net = made_net("above", base, 3, 4, 3)
            for depths in ((4, 0, 0), (0, 4, 0), (2, 1, 1), (4, 4, 4), (0, 0, 4), (1, 2, 1)):
                self.assertIs(self.told(is_even, net, depths), False)
                word, box = self.told(empty_box, net, depths)
                self.assertEqual(tuple(len(part) for part in box), depths)
                self.assertTrue(is_within(searched_shape(word), depths))

    def test_more_rows_than_the_width(self):
        net = (2, (UNIT, TURNED, ((1, 1), (0, 1))))
        self.assertEqual([self.told(strength, net), self.told(loss, net)], [2, 0])
        self.assertEqual(even_tops(net), ((0, 0, 2), (0, 1, 1), (0, 2, 0), (1, 0, 1), (1, 1, 0), (2, 0, 0)))
        self.assertEqual(strength((2, (((1,),), ((1,),)))), 1)
        self.assertEqual(strength((2, (((1,),), ((0,),)))), 0)

    def test_tops_of_unlike_sizes(self):
        net = (2, (((1, 0, 0), (0, 1, 0), (0, 0, 1)), ((1, 0, 0), (0, 0, 1), (0, 1, 0))))
        self.assertEqual(self.told(even_tops, net), ((0, 3), (3, 0)))
        net = (2, (((1, 0, 0), (0, 1, 0), (0, 0, 0)), ((0, 1, 0), (1, 0, 0), (0, 0, 1))))
        self.assertEqual(self.told(even_tops, net), ((0, 3), (1, 1), (2, 0)))
        self.assertEqual(self.told(strength, net), 2)
        self.assertEqual(self.told(loss, net), 1)


class LargeNets(Calls):
    def test_pascal_nets(self):
        for base in BASES:
            for width in (1, 2, 5, 12):
                for dimensions in range(1, min(base, 6) + 1):
                    net = pascal(base, dimensions, width)
                    self.assertEqual(strength(net), width)
                    self.assertEqual(loss(net), 0)
        net = pascal(7, 6, 12)
        self.assertEqual(list(even_tops(net)), sorted(depths_of_size(net, 12)))
        self.assertEqual(len(even_tops(net)), comb(17, 5))

    def check_strength(self, net):
        """Six tables of 12 rows of 12 figures against the ranks of all depths of two sizes."""
        found = strength(net)
        self.assertEqual(loss(net), 12 - found)
        ranks = [slow_rank(net[0], rows_of(net, depths)) for depths in depths_of_size(net, found)]
        self.assertEqual(set(ranks), {found})
        uneven = [one for one in depths_of_size(net, found + 1) if slow_rank(net[0], rows_of(net, one)) <= found]
        self.assertNotEqual(uneven, [])
        return uneven

    def test_made_nets(self):
        for base in BASES:
            net = made_net("large", base, 6, 12, 12)
            for depths in self.check_strength(net)[:3]:
                self.assertIs(self.told(is_even, net, depths), False)
                word, box = self.told(empty_box, net, depths)
                self.assertTrue(is_within(searched_shape(word), depths))
                self.assertEqual(tuple(len(figures) for figures in box), depths)
                self.assertNotEqual(weighed(base, word, padded(box, 12)), 0)
                rows = [row for table in net[1] for row in table]
                figures = [figure for part in word for figure in part]
                self.assertEqual({sum(a * row[at] for a, row in zip(figures, rows)) % base for at in range(12)}, {0})

    def test_tops_of_a_made_net(self):
        for base in BASES:
            net = made_net("large", base, 6, 12, 12)
            tops = even_tops(net)
            self.assertEqual(list(tops), sorted(set(tops)))
            for top in tops[:300]:
                self.assertEqual(slow_rank(base, rows_of(net, top)), sum(top))
                for at, one in enumerate(top):
                    if one < 12:
                        more = rows_of(net, put(top, (at,), one + 1))
                        self.assertEqual(slow_rank(base, more), sum(top))
            some = [one for one in depths_of_size(net, 12) if sum(one[:3]) in (0, 12)]
            even = [one for one in some if slow_rank(base, rows_of(net, one)) == 12]
            self.assertEqual([one for one in some if one in tops], even)

    def test_poor_and_alike_tables(self):
        for base in BASES:
            self.check_strength(poor_net("large", base, 6, 12, 12))
            net = (base, (unit_table(12, 12),) * 6)
            self.assertEqual(self.told(strength, net), 1)
            self.assertEqual(self.told(loss, net), 11)
            self.assertEqual(
                self.told(even_tops, net), tuple(tuple(12 * int(at == 5 - turn) for at in range(6)) for turn in range(6)))

    def test_all_depths_of_one_table(self):
        for base in BASES:
            net = (base, (unit_table(12, 12),))
            self.assertEqual([self.told(strength, net), self.told(even_tops, net)], [12, ((12,),)])
            net = (base, (unit_table(12, 11),))
            self.assertEqual([self.told(strength, net), self.told(even_tops, net)], [11, ((11,),)])


class WrongArguments(Calls):
    def check_depths(self, net, depths):
        for function in WITH_DEPTHS:
            self.refused(InvalidDepths, depths, function, net, depths)

    def test_wrong_nets(self):
        for net in wrong_nets() + any_values():
            for function in OF_NETS:
                self.refused(InvalidNet, net, function, net)
            for function in WITH_DEPTHS:
                self.refused(InvalidNet, net, function, net, (0, 0))

    def test_wrong_net_ahead_of_wrong_depths(self):
        for net in (None, (4, (UNIT,)), (2, [UNIT]), [2, (UNIT,)], (2, ())):
            for depths in (None, (), [0, 0], (3, 0), (True, 0), (0, -1)):
                for function in WITH_DEPTHS:
                    self.refused(InvalidNet, net, function, net, depths)

    def test_any_value_as_depths(self):
        for value in any_values():
            self.check_depths(BITS, value)

    def test_wrong_depths(self):
        for base in BASES:
            net = made_net("wrong", base, 2, 2, 3)
            for depths in (
                    (), (0,), (0, 0, 0), [0, 0], [1, 1], (3, 0), (0, 3), (2, 12), (-1, 0), (0, -1), (2, -2), (True, 0),
                    (0, False), (1, True), (None, 0), (0, None), ("0", 0), (0, "1"), ((), ()), ((0,), 0), (0, [0]),
                    "00", b"00", {0: 0, 1: 0}, range(2), (10 ** 399, 0), (0, -(10 ** 399)), (0,) * 6, (0,) * 10 ** 5):
                self.check_depths(net, depths)

    def test_any_value_as_one_of_the_depths(self):
        for at in (0, 1):
            for value in any_values():
                depths = put((1, 1), (at,), value)
                if type(value) is int and value in (0, 1, 2):
                    self.assertIn(self.told(is_even, BITS, depths), (True, False))
                else:
                    self.check_depths(BITS, depths)

    def test_depths_are_up_to_the_depth_not_the_width(self):
        net = (2, (((1, 0, 1), (0, 1, 1)),))
        self.check_depths(net, (3,))
        self.assertIs(is_even(net, (2,)), True)
        net = (2, (((1,), (1,), (0,)),))
        self.assertIs(is_even(net, (3,)), False)
        self.check_depths(net, (4,))

    def test_equal_calls(self):
        net, again = made_net("equal", 3, 2, 2, 3), made_net("equal", 3, 2, 2, 3)
        for function in WITH_DEPTHS:
            self.assertEqual(function(net, (2, 2)), function(again, (2, 2)))
        for function in OF_NETS:
            self.assertEqual(function(net), function(again))


if __name__ == "__main__":
    unittest.main()
