"""Points 3 to 6 and 8, and evennets/boxes.py: how many starts are in a box, and which ones."""

import unittest

from evennets.boxes import box_count, first_start, starts_in
from evennets.errors import InvalidBox, InvalidNet
from evennets.nets import point_of
from tests.checks import Calls
from tests.samples import BASES, any_values, are_in_stairs, made_net, put, searched_sums, table_of, wrong_nets
from tests.searches import (
    SIZES, all_boxes, all_depths, begun, points_by_starts, poor_net, rows_of, sizes_of, slow_rank, small_nets,
    unit_table)

FUNCTIONS = (box_count, starts_in, first_start)
UNIT, TURNED = ((1, 0), (0, 1)), ((0, 1), (1, 0))
BITS, FLAT = (2, (UNIT, TURNED)), (2, (UNIT, UNIT))


def added(base, start, difference):
    return tuple((a + b) % base for a, b in zip(start, difference))


class AllBoxes(Calls):
    def check_box(self, net, box, inside):
        """What is told of the box against the starts that are known to be in it."""
        base, width = net[0], sizes_of(net)[2]
        self.assertEqual(box_count(net, box), len(inside))
        if not inside:
            self.assertIsNone(starts_in(net, box))
            self.assertIsNone(first_start(net, box))
            return
        self.assertEqual(first_start(net, box), min(inside))
        start, differences = starts_in(net, box)
        self.assertIn(start, inside)
        self.assertTrue(all(len(row) == width for row in differences))
        self.assertTrue(are_in_stairs(differences))
        self.assertEqual(base ** len(differences), len(inside))
        sums = searched_sums(base, differences) if differences else {(0,) * width}
        self.assertEqual({added(base, start, one) for one in sums}, set(inside))
        self.check_kinds(starts_in(net, box))

    def check_all(self, net):
        points = points_by_starts(net)
        for depths in all_depths(net):
            found = {box: [] for box in all_boxes(net, depths)}
            for start, point in points:
                found[begun(point, depths)].append(start)
            for box, inside in found.items():
                self.check_box(net, box, inside)

    def test_all_boxes_of_all_depths(self):
        for base in BASES:
            for net in small_nets(base):
                if base ** (sizes_of(net)[0] * sizes_of(net)[1]) <= 729:
                    self.check_all(net)

    def test_base_7_in_two_dimensions(self):
        self.check_all(made_net("seven", 7, 2, 2, 2))
        self.check_all(poor_net("seven", 7, 2, 2, 2))

    def test_as_many_boxes_as_the_rank_tells(self):
        for base in BASES:
            for net in small_nets(base):
                dimensions, depth, width = sizes_of(net)
                if base ** (dimensions * depth) > 256:
                    continue
                for depths in all_depths(net):
                    rank = slow_rank(base, rows_of(net, depths))
                    counts = [box_count(net, box) for box in all_boxes(net, depths)]
                    self.assertEqual(counts.count(base ** (width - rank)), base ** rank)
                    self.assertEqual(counts.count(0), len(counts) - base ** rank)

    def test_all_ways_of_calling(self):
        for base in BASES:
            dimensions, depth, width = SIZES[base][3]
            net = made_net("ways", base, dimensions, depth, width)
            for depths in all_depths(net):
                for box in all_boxes(net, depths)[:9]:
                    for function in FUNCTIONS:
                        self.told(function, net, box)


class ByHand(Calls):
    def test_least_as_tuples_not_as_numbers(self):
        # The starts (1, 0) and (0, 1) have the numbers 1 and 2.
        net = (2, (((1, 1),),))
        self.assertEqual(self.told(first_start, net, ((1,),)), (0, 1))
        self.assertEqual(self.told(starts_in, net, ((1,),))[1], ((1, 1),))
        self.assertEqual(self.told(first_start, (3, (((1, 1),),)), ((2,),)), (0, 2))
        self.assertEqual(self.told(first_start, (7, (((2, 1, 0),),)), ((3,),)), (0, 3, 0))
        self.assertEqual(self.told(starts_in, (7, (((2, 1, 0),),)), ((3,),))[1], ((1, 5, 0), (0, 0, 1)))

    def test_no_dimension_bound(self):
        for base in BASES:
            net = made_net("unbound", base, 3, 2, 4)
            self.assertEqual(self.told(box_count, net, ((), (), ())), base ** 4)
            self.assertEqual(self.told(first_start, net, ((), (), ())), (0,) * 4)
            start, differences = self.told(starts_in, net, ((), (), ()))
            self.assertEqual(len(start), 4)
            self.assertEqual(differences, unit_table(4, 4))

    def test_one_start_alone(self):
        self.assertEqual(self.told(starts_in, BITS, ((1, 0), ())), ((1, 0), ()))
        self.assertEqual(self.told(starts_in, BITS, ((1,), (1,))), ((1, 1), ()))
        self.assertEqual(self.told(starts_in, FLAT, ((0, 1), (0, 1))), ((0, 1), ()))
        self.assertIsNone(self.told(starts_in, FLAT, ((0, 1), (0, 0))))
        self.assertEqual(self.told(box_count, FLAT, ((0, 1), (0, 0))), 0)

    def test_rows_of_noughts(self):
        for base in BASES:
            net = (base, (table_of(2, 3, 0),))
            self.assertEqual(self.told(box_count, net, ((0, 0),)), base ** 3)
            self.assertEqual(self.told(starts_in, net, ((0, 0),))[1], unit_table(3, 3))
            for box in (((1,),), ((0, base - 1),), ((1, 1),)):
                self.assertEqual(self.told(box_count, net, box), 0)
                self.assertIsNone(self.told(starts_in, net, box))
                self.assertIsNone(self.told(first_start, net, box))


class LargeNets(Calls):
    def test_boxes_of_points(self):
        for base in BASES:
            net = made_net("large", base, 6, 12, 12)
            start = tuple(place % base for place in range(2, 14))
            point = point_of(net, start)
            for depths in ((12,) * 6, (1,) * 6, (2, 0, 1, 0, 3, 1), (0, 12, 0, 0, 0, 0), (0, 0, 0, 0, 0, 1)):
                box = begun(point, depths)
                rank = slow_rank(base, rows_of(net, depths))
                self.assertEqual(self.told(box_count, net, box), base ** (12 - rank))
                inside, differences = self.told(starts_in, net, box)
                self.assertTrue(are_in_stairs(differences))
                self.assertEqual(len(differences), 12 - rank)
                for one in (inside, self.told(first_start, net, box)) + tuple(
                        added(base, inside, difference) for difference in differences):
                    self.assertEqual(begun(point_of(net, one), depths), box)
                # The least start has 0 wherever some difference can make it 0.
                least = first_start(net, box)
                self.assertTrue(all(least[row.index(1)] == 0 for row in differences))

    def test_boxes_without_starts(self):
        for base in BASES:
            net = made_net("large", base, 6, 12, 12)
            box = (((0,) * 12,) * 5) + ((0,) * 11 + (1,),)
            self.assertEqual(slow_rank(base, rows_of(net, (12,) * 5 + (11,))), 12)
            self.assertEqual(self.told(box_count, net, box), 0)
            self.assertIsNone(self.told(starts_in, net, box))
            self.assertIsNone(self.told(first_start, net, box))

    def test_noughts_alone(self):
        for base in BASES:
            net = (base, (table_of(12, 12, 0),) * 6)
            self.assertEqual(self.told(box_count, net, ((0,) * 12,) * 6), base ** 12)
            self.assertEqual(self.told(starts_in, net, ((0,) * 12,) * 6)[1], unit_table(12, 12))


class WrongArguments(Calls):
    def check_box(self, net, box):
        for function in FUNCTIONS:
            self.refused(InvalidBox, box, function, net, box)

    def test_wrong_nets(self):
        for net in wrong_nets() + any_values():
            for function in FUNCTIONS:
                self.refused(InvalidNet, net, function, net, ((), ()))

    def test_wrong_net_ahead_of_wrong_box(self):
        for net in (None, (4, (UNIT,)), (2, [UNIT]), [2, (UNIT,)], (2, ())):
            for box in (None, (), [(), ()], ((2,), ()), ((True,), ())):
                for function in FUNCTIONS:
                    self.refused(InvalidNet, net, function, net, box)

    def test_any_value_as_a_box(self):
        for value in any_values():
            self.check_box(BITS, value)
            self.check_box(BITS, (value, (0,)) if value != () else (value,))

    def test_wrong_boxes(self):
        for base in BASES:
            net = made_net("wrong", base, 2, 2, 3)
            for box in (
                    (), ((),), ((), (), ()), [(), ()], ([], ()), ((), []), ([0], ()), ((0,), [0]), ((0, 0, 0), ()),
                    ((), (0, 0, 0)), ((0,) * 12, ()), ((base,), ()), ((), (0, base)), ((-1,), ()), ((), (0, -1)),
                    ((True,), ()), ((), (False,)), ((), (0, True)), (0, 0), ("", ""), ("0", "1"), (b"", b"\x00"),
                    ((), None), (None, ()), ((None,), ()), (((0,),), ()), ((), ("0",)), {(): (), (0,): ()},
                    ((), range(1)), ((10 ** 399,), ()), ((),) * 7):
                self.check_box(net, box)

    def test_any_value_as_a_figure(self):
        box = ((1, 1), (0, 1))
        for path in ((0, 0), (1, 1)):
            for value in any_values():
                if type(value) is int and value in (0, 1):
                    self.assertIn(self.told(box_count, BITS, put(box, path, value)), (0, 1))
                else:
                    self.check_box(BITS, put(box, path, value))

    def test_a_box_is_as_deep_as_the_net_not_as_wide(self):
        net = (2, (((1, 0, 1), (0, 1, 1)),))
        self.check_box(net, ((0, 0, 0),))
        self.assertEqual(box_count(net, ((0, 0),)), 2)
        net = (2, (((1,), (1,), (0,)),))
        self.assertEqual(box_count(net, ((1, 1, 0),)), 1)
        self.check_box(net, ((1, 1, 0, 0),))

    def test_equal_calls(self):
        for function in FUNCTIONS:
            net, again = made_net("equal", 3, 2, 2, 3), made_net("equal", 3, 2, 2, 3)
            self.assertEqual(function(net, ((1,), (2,))), function(again, ((1,), (2,))))


if __name__ == "__main__":
    unittest.main()
