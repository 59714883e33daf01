"""Points 3 to 5 and 14, and evennets/shapes.py: dual words by their shapes, starts by their leads."""

import unittest

from evennets.errors import InvalidDepths, InvalidNet, InvalidShape, TooMany
from evennets.shapes import (
    begun_with_noughts, lead_count, lead_counts, shape_count, shape_counts, weight_counts, words_within)
from tests.checks import Calls
from tests.samples import BASES, any_values, made_net, put, table_of, wrong_nets
from tests.searches import (
    all_depths, is_within, points_by_starts, poor_net, rows_of, searched_dual, searched_shape, sizes_of, slow_rank,
    small_nets, unit_table)

OF_DEPTHS, OF_SHAPES = (words_within, begun_with_noughts), (shape_count, lead_count)
OF_NETS = (shape_counts, lead_counts, weight_counts)
UNIT, TURNED = ((1, 0), (0, 1)), ((0, 1), (1, 0))
BITS, FLAT = (2, (UNIT, TURNED)), (2, (UNIT, UNIT))
ALL_SMALL = [net for base in BASES for net in small_nets(base)]
# The numbers of dimensions and depths of the nets with the most depths that still answer.
MOST_DEPTHS = ((1, 12), (2, 12), (3, 12), (4, 7), (5, 4), (6, 3))


def searched_lead(point):
    """With just how many noughts the point begins in each dimension."""
    return tuple(next((at for at, figure in enumerate(figures) if figure), len(figures)) for figures in point)


def counted(values):
    """All pairs of a value and how often it comes, ascending."""
    values = list(values)
    return tuple((value, values.count(value)) for value in sorted(set(values)))


def shapes_of_dual(net):
    return [searched_shape(word) for word in searched_dual(net)]


def leads_of_starts(net):
    return [searched_lead(point) for _, point in points_by_starts(net)]


class SmallNets(Calls):
    def test_within_depths(self):
        for net in ALL_SMALL:
            shapes, leads = shapes_of_dual(net), leads_of_starts(net)
            for depths in all_depths(net):
                self.assertEqual(words_within(net, depths), sum(is_within(shape, depths) for shape in shapes))
                self.assertEqual(begun_with_noughts(net, depths), sum(is_within(depths, lead) for lead in leads))

    def test_words_are_a_power_times_starts(self):
        for net in ALL_SMALL:
            base, width = net[0], sizes_of(net)[2]
            for depths in all_depths(net):
                words, starts = words_within(net, depths), begun_with_noughts(net, depths)
                self.assertEqual(words * base ** width, starts * base ** sum(depths))

    def test_just_a_shape_and_just_a_lead(self):
        for net in ALL_SMALL:
            shapes, leads = shapes_of_dual(net), leads_of_starts(net)
            for one in all_depths(net):
                self.assertEqual(shape_count(net, one), shapes.count(one))
                self.assertEqual(lead_count(net, one), leads.count(one))

    def test_all_shapes_and_all_leads(self):
        for net in ALL_SMALL:
            self.assertEqual(self.told(shape_counts, net), counted(shapes_of_dual(net)))
            self.assertEqual(self.told(lead_counts, net), counted(leads_of_starts(net)))

    def test_weights(self):
        for net in ALL_SMALL:
            dimensions, depth, _ = sizes_of(net)
            weights = [sum(shape) for shape in shapes_of_dual(net)]
            self.assertEqual(
                self.told(weight_counts, net), tuple(weights.count(one) for one in range(dimensions * depth + 1)))

    def test_all_ways_of_calling(self):
        for net in ALL_SMALL[::5]:
            for one in all_depths(net)[::3]:
                for function in OF_DEPTHS + OF_SHAPES:
                    self.assertIs(type(self.told(function, net, one)), int)

    def test_by_hand(self):
        self.assertEqual(self.told(shape_counts, FLAT), (((0, 0), 1), ((1, 1), 1), ((2, 2), 2)))
        self.assertEqual(self.told(lead_counts, FLAT), (((0, 0), 2), ((1, 1), 1), ((2, 2), 1)))
        net = (3, (((1,), (0,)),))
        self.assertEqual(self.told(shape_counts, net), (((0,), 1), ((2,), 2)))
        self.assertEqual(self.told(lead_counts, net), (((0,), 2), ((2,), 1)))
        self.assertEqual(self.told(weight_counts, net), (1, 0, 2))
        self.assertEqual([lead_count(net, (one,)) for one in (0, 1, 2)], [2, 0, 1])
        self.assertEqual([begun_with_noughts(net, (one,)) for one in (0, 1, 2)], [3, 1, 1])


class LargeNets(Calls):
    def test_within_depths(self):
        for base in BASES:
            for net in (made_net("large", base, 6, 12, 12), poor_net("large", base, 6, 12, 12)):
                for depths in ((12,) * 6, (0,) * 6, (1,) * 6, (12, 0, 0, 0, 0, 0), (3, 2, 0, 1, 4, 12), (0, 0, 0, 0, 0, 1)):
                    rank = slow_rank(base, rows_of(net, depths))
                    self.assertEqual(self.told(words_within, net, depths), base ** (sum(depths) - rank))
                    self.assertEqual(self.told(begun_with_noughts, net, depths), base ** (12 - rank))

    def test_sums_below_a_shape_and_above_a_lead(self):
        for base in BASES:
            net = made_net("large", base, 6, 12, 12)
            shape, lead = (2, 0, 3, 0, 1, 6), (11, 12, 12, 0, 12, 12)
            within = [one for one in all_depths((base, (table_of(6, 1),) * 6)) if is_within(one, shape)]
            self.assertEqual(sum(shape_count(net, one) for one in within), words_within(net, shape))
            late = [tuple(12 - at for at in one) for one in ((0,) * 6, (1, 0, 0, 0, 0, 0))]
            late = [one[:3] + (at,) + one[4:] for one in late for at in range(13)]
            self.assertEqual(sum(lead_count(net, one) for one in late), begun_with_noughts(net, lead))

    def test_shapes_of_noughts_and_of_free_rows(self):
        for base in BASES:
            net = (base, (table_of(12, 12, 0),) * 6)
            self.assertEqual(self.told(shape_count, net, (12,) * 6), (base ** 12 - base ** 11) ** 6)
            self.assertEqual(self.told(shape_count, net, (1, 0, 2, 0, 0, 12)), (base - 1) ** 3 * base ** 12)
            self.assertEqual(self.told(lead_count, net, (12,) * 6), base ** 12)
            self.assertEqual(self.told(lead_count, net, (12, 12, 12, 12, 12, 11)), 0)
            free = (base, tuple(unit_table(2, 12, 2 * at) for at in range(6)))
            self.assertEqual(self.told(shape_counts, free), (((0,) * 6, 1),))
            self.assertEqual(self.told(weight_counts, free), (1,) + (0,) * 12)
            self.assertEqual(self.told(lead_count, free, (0,) * 6), (base ** 2 - base) ** 6)
            self.assertEqual(self.told(lead_count, free, (2, 1, 0, 2, 2, 2)), (base - 1) * (base ** 2 - base))

    def test_one_table_of_noughts(self):
        for base in BASES:
            net = (base, (table_of(12, 5, 0),))
            powers = [1] + [base ** one - base ** (one - 1) for one in range(1, 13)]
            self.assertEqual(self.told(weight_counts, net), tuple(powers))
            self.assertEqual(self.told(shape_counts, net), tuple(((at,), one) for at, one in enumerate(powers)))
            self.assertEqual(self.told(lead_counts, net), (((12,), base ** 5),))


class ManyDepths(Calls):
    def test_the_most_depths_answer(self):
        for base in BASES:
            for dimensions, depth in MOST_DEPTHS:
                net = made_net("depths", base, dimensions, depth, 12)
                shapes, leads, weights = shape_counts(net), lead_counts(net), weight_counts(net)
                rank = slow_rank(base, rows_of(net))
                self.assertEqual(sum(number for _, number in shapes), base ** (dimensions * depth - rank))
                self.assertEqual(sum(number for _, number in leads), base ** 12)
                self.assertEqual(len(weights), dimensions * depth + 1)
                for pairs, count in ((shapes, shape_count), (leads, lead_count)):
                    self.assertEqual([one for one, _ in pairs], sorted({one for one, _ in pairs}))
                    self.assertTrue(all(number > 0 for _, number in pairs))
                    some = all_depths(net)[::97]
                    self.assertEqual([dict(pairs).get(one, 0) for one in some], [count(net, one) for one in some])
                for weight, number in enumerate(weights):
                    self.assertEqual(number, sum(many for shape, many in shapes if sum(shape) == weight))

    def test_just_4096_depths(self):
        for dimensions, depth in ((4, 7), (6, 3)):
            self.assertEqual((depth + 1) ** dimensions, 4096)
            net = (7, (table_of(depth, 2, 0),) * dimensions)
            self.assertEqual(len(self.told(shape_counts, net)), 4096)
            self.assertEqual(self.told(lead_counts, net), (((depth,) * dimensions, 49),))
            self.assertEqual(sum(self.told(weight_counts, net)), 7 ** (dimensions * depth))

    def test_too_many(self):
        for base in BASES:
            for dimensions, depth, number in (
                    (4, 8, 6561), (5, 7, 32768), (6, 4, 15625), (5, 5, 7776), (6, 12, 13 ** 6), (4, 12, 28561), (6, 5, 46656)):
                self.assertEqual((depth + 1) ** dimensions, number)
                net = made_net("too many", base, dimensions, depth, 2)
                for function in OF_NETS:
                    self.told_number(TooMany, "given", number, function, net)


class WrongArguments(Calls):
    def check_wrong(self, net, value):
        for function in OF_DEPTHS:
            self.refused(InvalidDepths, value, function, net, value)
        for function in OF_SHAPES:
            self.refused(InvalidShape, value, function, net, value)

    def test_wrong_nets(self):
        for net in wrong_nets() + any_values():
            for function in OF_NETS:
                self.refused(InvalidNet, net, function, net)
            for function in OF_DEPTHS + OF_SHAPES:
                self.refused(InvalidNet, net, function, net, (0, 0))

    def test_wrong_net_ahead_of_the_rest(self):
        for net in (None, (4, (UNIT,)), (2, [UNIT]), [2, (UNIT,)], (2, ())):
            for value in (None, (), [0, 0], (3, 0), (True, 0), (0, -1)):
                for function in OF_DEPTHS + OF_SHAPES:
                    self.refused(InvalidNet, net, function, net, value)
        for function in OF_NETS:
            net = (2, (table_of(13, 12),) * 6)
            self.refused(InvalidNet, net, function, net)

    def test_any_value(self):
        for value in any_values():
            self.check_wrong(BITS, value)

    def test_wrong_values(self):
        for base in BASES:
            net = made_net("wrong", base, 2, 2, 3)
            for value in (
                    (), (0,), (0, 0, 0), [0, 0], [1, 1], (3, 0), (0, 3), (2, 12), (-1, 0), (0, -1), (2, -2), (True, 0),
                    (0, False), (1, True), (None, 0), (0, None), ("0", 0), (0, "1"), ((), ()), ((0,), 0), (0, [0]),
                    "00", b"00", {0: 0, 1: 0}, range(2), (10 ** 399, 0), (0, -(10 ** 399)), (0,) * 6, (0,) * 10 ** 5):
                self.check_wrong(net, value)

    def test_any_value_as_one_of_them(self):
        for at in (0, 1):
            for value in any_values():
                depths = put((1, 1), (at,), value)
                if type(value) is int and value in (0, 1, 2):
                    for function in OF_DEPTHS + OF_SHAPES:
                        self.assertGreaterEqual(self.told(function, BITS, depths), 0)
                else:
                    self.check_wrong(BITS, depths)

    def test_up_to_the_depth_not_the_width(self):
        net = (2, (((1, 0, 1), (0, 1, 1)),))
        self.check_wrong(net, (3,))
        self.assertEqual([function(net, (2,)) for function in OF_DEPTHS + OF_SHAPES], [1, 2, 0, 2])
        net = (2, (((1,), (1,), (0,)),))
        self.assertEqual([function(net, (3,)) for function in OF_DEPTHS + OF_SHAPES], [4, 1, 2, 1])
        self.check_wrong(net, (4,))

    def test_equal_calls(self):
        net, again = made_net("equal", 3, 2, 2, 3), made_net("equal", 3, 2, 2, 3)
        for function in OF_DEPTHS + OF_SHAPES:
            self.assertEqual(function(net, (2, 2)), function(again, (2, 2)))
        for function in OF_NETS:
            self.assertEqual(function(net), function(again))


if __name__ == "__main__":
    unittest.main()
