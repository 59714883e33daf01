"""Points 3 to 5 and 7, and evennets/nets.py: nets, points and places."""

import unittest
from fractions import Fraction
from math import gcd

from evennets.errors import InvalidNet, InvalidStart, TooMany
from evennets.nets import is_net, place_of, point_of, points_of
from tests.samples import BASES, all_rows, any_values, made_net, never_bases, put, table_of, wrong_nets

UNIT, TURNED = ((1, 0), (0, 1)), ((0, 1), (1, 0))
BITS = (2, (UNIT, TURNED))
# By base the greatest width with up to 4096 starts, and how many there are with one more column.
GREATEST = ((3, 7, 6561), (5, 5, 15625), (7, 4, 16807))


class IsNet(unittest.TestCase):
    def told(self, value):
        first = is_net(value)
        self.assertIs(is_net(value=value), first)
        return first

    def test_right_at_the_bounds(self):
        for base in BASES:
            for dimensions in range(1, 7):
                for depth, width in ((1, 1), (1, 12), (12, 1), (12, 12), (3, 2)):
                    self.assertIs(self.told(made_net("bounds", base, dimensions, depth, width)), True)
                    self.assertIs(self.told((base, (table_of(depth, width, base - 1),) * dimensions)), True)
                    self.assertIs(self.told((base, (table_of(depth, width, 0),) * dimensions)), True)

    def test_wrong(self):
        for value in wrong_nets():
            before = repr(value)
            self.assertIs(self.told(value), False, before)
            self.assertEqual(repr(value), before)

    def test_just_beyond_the_bounds(self):
        for base in BASES:
            for dimensions, depth, width in ((7, 1, 1), (7, 12, 12), (1, 13, 1), (6, 13, 12), (1, 1, 13), (6, 12, 13)):
                self.assertIs(self.told(made_net("beyond", base, dimensions, depth, width)), False)
            for dimensions, depth, width in ((0, 1, 1), (1, 0, 1), (6, 0, 12), (1, 1, 0), (6, 12, 0)):
                self.assertIs(self.told((base, (table_of(depth, width),) * dimensions)), False)

    def test_any_value(self):
        for value in any_values():
            self.assertIs(self.told(value), False)
            self.assertIs(self.told((2, value)), False)
            self.assertIs(self.told((2, (value,))), False)
            self.assertIs(self.told((2, (((0, 1),), value))), False)

    def test_any_value_at_any_place_of_a_net(self):
        net = made_net("places", 3, 3, 3, 3)
        for path in ((), (0,), (1,), (1, 0), (1, 1), (1, 2), (1, 0, 0), (1, 1, 2), (1, 2, 1)):
            for value in any_values():
                self.assertIs(self.told(put(net, path, value)), False, (path, value))
        for path in ((1, 0, 0, 0), (1, 1, 2, 2), (1, 2, 1, 0)):
            for value in any_values():
                right = type(value) is int and value in (0, 1, 2)
                self.assertIs(self.told(put(net, path, value)), right, (path, value))

    def test_figures_of_each_base(self):
        for base in BASES:
            for figure in range(-2, 10):
                self.assertIs(self.told((base, (((0, figure),),))), 0 <= figure < base)


class PointsAndPlaces(unittest.TestCase):
    def check(self, net, start):
        base, tables = net
        point = point_of(net, start)
        wanted = tuple(tuple(sum(a * b for a, b in zip(row, start)) % base for row in table) for table in tables)
        self.assertEqual(point, wanted)
        place = place_of(net, start)
        self.assertIs(type(place), tuple)
        self.assertEqual(len(place), len(tables))
        for figures, fraction in zip(wanted, place):
            self.assertEqual([type(fraction), len(fraction), type(fraction[0]), type(fraction[1])], [tuple, 2, int, int])
            self.assertEqual(Fraction(*fraction), sum(Fraction(f, base ** (j + 1)) for j, f in enumerate(figures)))
            self.assertEqual(gcd(*fraction), 1)
            self.assertTrue(0 <= fraction[0] < fraction[1])

    def test_all_starts_of_small_nets(self):
        for base, most in ((2, 5), (3, 3), (5, 2), (7, 2)):
            for width in range(1, most + 1):
                for dimensions in (1, 2, 3):
                    for depth in (1, 2, 4):
                        net = made_net("small", base, dimensions, depth, width)
                        for start in all_rows(base, width):
                            self.check(net, start)

    def test_large_nets(self):
        for base in BASES:
            net = made_net("large", base, 6, 12, 12)
            for start in ((0,) * 12, (base - 1,) * 12, (1,) + (0,) * 11, (0,) * 11 + (1,)):
                self.check(net, start)

    def test_place_of_nought_is_reduced(self):
        for base in BASES:
            net = (base, (table_of(3, 2, 0), table_of(3, 2)))
            self.assertEqual(place_of(net, (0, 0)), ((0, 1), (0, 1)))
            self.assertEqual(place_of(net, (1, 0))[0], (0, 1))

    def test_by_hand(self):
        net = (3, (((1, 2), (0, 1), (2, 0)),))
        self.assertEqual(point_of(net, (2, 1)), ((1, 1, 1),))
        self.assertEqual(place_of(net, (2, 1)), ((13, 27),))
        self.assertEqual(place_of(net, (1, 1)), ((5, 27),))
        self.assertEqual(place_of((2, (((1,), (0,)),)), (1,)), ((1, 2),))

    def test_by_position_and_by_name(self):
        self.assertEqual(point_of(start=(1, 0), net=BITS), point_of(BITS, (1, 0)))
        self.assertEqual(point_of(BITS, start=(1, 0)), ((1, 0), (0, 1)))
        self.assertEqual(place_of(start=(1, 0), net=BITS), place_of(BITS, (1, 0)))
        self.assertEqual(place_of(BITS, start=(1, 0)), ((1, 2), (1, 4)))
        self.assertEqual(points_of(net=BITS), points_of(BITS))


class AllPoints(unittest.TestCase):
    def test_order_by_numbers_of_starts(self):
        for base, most in ((2, 6), (3, 4), (5, 3), (7, 2)):
            for width in range(1, most + 1):
                unit = tuple(tuple(int(at == other) for other in range(width)) for at in range(width))
                starts = [figures for figures, in points_of((base, (unit,)))]
                numbers = [sum(figure * base ** at for at, figure in enumerate(start)) for start in starts]
                self.assertEqual(numbers, list(range(base ** width)))
                net = made_net("order", base, 3, 2, width)
                points = points_of(net)
                self.assertIs(type(points), tuple)
                self.assertEqual(points, tuple(point_of(net, start) for start in starts))

    def test_same_points_are_told_each_time(self):
        self.assertEqual(points_of((2, (table_of(1, 2, 0),))), (((0,),),) * 4)
        self.assertEqual(points_of((3, (((0, 1),),))), (((0,),),) * 3 + (((1,),),) * 3 + (((2,),),) * 3)

    def test_4096_starts_answer(self):
        net = made_net("most", 2, 2, 3, 12)
        points = points_of(net)
        self.assertEqual(len(points), 4096)
        self.assertEqual(points[1], point_of(net, (1,) + (0,) * 11))
        self.assertEqual(points[2048], point_of(net, (0,) * 11 + (1,)))
        self.assertEqual(points[4095], point_of(net, (1,) * 12))

    def test_the_last_ones_that_answer_and_one_more_column(self):
        for base, width, many in GREATEST:
            points = points_of(made_net("answer", base, 1, 1, width))
            self.assertEqual(len(points), base ** width)
            self.check_too_many(made_net("more", base, 1, 1, width + 1), many)

    def check_too_many(self, net, many):
        for call in (lambda: points_of(net), lambda: points_of(net=net)):
            with self.assertRaises(TooMany) as caught:
                call()
            self.assertIs(type(caught.exception), TooMany)
            self.assertEqual(caught.exception.given, many)
            self.assertIs(type(caught.exception.given), int)

    def test_too_many(self):
        for base in (3, 5, 7):
            for width in (8, 12):
                self.check_too_many(made_net("too many", base, 2, 2, width), base ** width)

    def test_points_of_many_starts_one_by_one(self):
        net = made_net("alone", 7, 2, 2, 12)
        self.assertEqual(point_of(net, (0,) * 12), ((0, 0), (0, 0)))


class WrongArguments(unittest.TestCase):
    def check(self, kind, given, *calls):
        before = repr(given)
        for call in calls:
            with self.assertRaises(kind) as caught:
                call()
            self.assertIs(type(caught.exception), kind)
            self.assertIs(caught.exception.given, given)
        self.assertEqual(repr(given), before)

    def check_net(self, net, start):
        self.check(
            InvalidNet, net,
            lambda: point_of(net, start), lambda: point_of(start=start, net=net),
            lambda: place_of(net, start), lambda: place_of(start=start, net=net),
            lambda: points_of(net), lambda: points_of(net=net))

    def check_start(self, net, start):
        self.check(
            InvalidStart, start,
            lambda: point_of(net, start), lambda: point_of(start=start, net=net),
            lambda: place_of(net, start), lambda: place_of(start=start, net=net))

    def test_wrong_nets(self):
        for net in any_values() + wrong_nets():
            self.check_net(net, (1,))

    def test_wrong_net_ahead_of_wrong_start(self):
        for net in (None, (4, (UNIT,)), (2, [UNIT]), [2, (UNIT,)]):
            for start in (None, (), [0, 0], (2, 0), (True, 0)):
                self.check_net(net, start)

    def test_wrong_base_in_it_is_a_wrong_net(self):
        for base in never_bases():
            self.check_net((base, (UNIT,)), (0, 0))

    def test_any_value_as_a_start(self):
        for start in any_values():
            self.check_start(BITS, start)
        for start in any_values():
            self.check_start((7, (((1,) * 12,),)), start)

    def test_wrong_starts(self):
        wrong = [
            (), (0,), (0, 0, 0), [0, 0], [], "00", b"00", {0: 0, 1: 0}, range(2), (0, -1), (-1, 0), (True, 0), (0, False),
            (0, None), ("0", 0), ((0,), 0), (0, [0]), (0, 10 ** 399), (0,) * 12, (0,) * 10 ** 5]
        for base in BASES:
            net = (base, (UNIT, TURNED))
            for start in wrong + [(0, base), (base, 0), (0, base + 1)]:
                self.check_start(net, start)

    def test_starts_are_as_long_as_the_width_not_the_depth(self):
        net = (2, (((1, 0, 1), (0, 1, 1)),))
        self.check_start(net, (0, 1))
        self.assertEqual(point_of(net, (0, 1, 1)), ((1, 0),))
        self.check_start((2, (((1,), (1,)),)), (1, 1))

    def test_equal_calls_return_equal_results_and_change_nothing(self):
        for base in BASES:
            net, again = made_net("equal", base, 2, 2, 2), made_net("equal", base, 2, 2, 2)
            for function in (point_of, place_of):
                self.assertEqual(function(net, (1, 1)), function(again, (1, 1)))
            self.assertEqual(points_of(net), points_of(again))
            self.assertEqual(net, again)


if __name__ == "__main__":
    unittest.main()
