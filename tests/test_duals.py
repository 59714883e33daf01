"""Points 3 to 5 and 11 to 13, and evennets/duals.py: dual words, the net of given ones, points shared by nets."""

import itertools
import unittest

from evennets.duals import (
    are_same_points, dual_base, is_dual, is_inside, least_word, net_with_dual, outside_start, shape_of, stair_weight)
from evennets.errors import TooMany
from evennets.nets import is_net, point_of
from tests.checks import Calls
from tests.samples import BASES, are_in_stairs, made_net, made_rows, put, searched_sums, table_of
from tests.searches import (
    all_words, flat, points_by_starts, poor_net, rows_of, searched_dual, searched_shape, sizes_of, slow_rank,
    small_nets, unit_table)

OF_BOTH = (are_same_points, is_inside, outside_start)
UNIT, TURNED = ((1, 0), (0, 1)), ((0, 1), (1, 0))
BITS, FLAT = (2, (UNIT, TURNED)), (2, (UNIT, UNIT))
ALL_SMALL = [net for base in BASES for net in small_nets(base)]


def points_of_all(net):
    return {point for _, point in points_by_starts(net)}


def sum_nought(net, word):
    """Whether the sum of the net's rows, each times its figure of the word, is nought."""
    pairs = list(zip(flat(word), rows_of(net)))
    return all(sum(figure * row[at] for figure, row in pairs) % net[0] == 0 for at in range(sizes_of(net)[2]))


def word_of(row, depth):
    return tuple(tuple(row[at:at + depth]) for at in range(0, len(row), depth))


def searched_net(base, words):
    """The net that point 13 and `net_with_dual` tell, its columns found by a walk over all words."""
    dimensions, depth = len(words[0]), len(words[0][0])
    left = [
        row for row in itertools.product(range(base), repeat=dimensions * depth)
        if all(sum(a * b for a, b in zip(row, flat(word))) % base == 0 for word in words)]
    found, places = [], []
    for row in sorted(left, reverse=True):
        place = next((at for at, figure in enumerate(row) if figure), None)
        if place is not None and row[place] == 1 and place not in places:
            places.append(place)
    for place in places:
        found.append(next(row for row in left if not any(row[:place]) and all(
            row[at] == int(at == place) for at in places)))
    found = found or [(0,) * (dimensions * depth)]
    return base, word_of(list(zip(*found)), depth)


class Words(Calls):
    def test_shapes_and_weights(self):
        for net in ALL_SMALL[::3]:
            for word in all_words(net)[:250]:
                self.assertEqual(shape_of(net, word), searched_shape(word))
                self.assertEqual(stair_weight(net, word), sum(searched_shape(word)))
        for net in ALL_SMALL[::7]:
            for word in all_words(net)[1:8]:
                self.assertEqual(self.told(shape_of, net, word), searched_shape(word))
                self.assertEqual(self.told(stair_weight, net, word), sum(searched_shape(word)))

    def test_by_hand(self):
        net = made_net("hand", 3, 3, 4, 2)
        word = ((0, 2, 0, 0), (0, 0, 0, 0), (1, 0, 0, 2))
        self.assertEqual(self.told(shape_of, net, word), (2, 0, 4))
        self.assertEqual(self.told(stair_weight, net, word), 6)
        self.assertEqual(self.told(shape_of, net, ((0,) * 4,) * 3), (0, 0, 0))
        self.assertEqual(self.told(stair_weight, net, ((0,) * 4,) * 3), 0)
        large = made_net("hand", 7, 6, 12, 12)
        self.assertEqual(self.told(stair_weight, large, ((6,) * 12,) * 6), 72)
        self.assertEqual(self.told(shape_of, large, ((6,) * 12,) * 6), (12,) * 6)
        self.assertEqual(self.told(shape_of, large, ((5,) + (0,) * 11,) * 6), (1,) * 6)

    def test_dual_words_by_all_points(self):
        for net in ALL_SMALL:
            dual = set(searched_dual(net))
            for word in all_words(net):
                self.assertIs(is_dual(net, word), word in dual)

    def test_dual_in_all_ways(self):
        for net in ALL_SMALL[::4]:
            for word in all_words(net)[:20]:
                self.told(is_dual, net, word)
        self.assertIs(self.told(is_dual, BITS, ((1, 0), (0, 1))), True)
        self.assertIs(self.told(is_dual, BITS, ((1, 0), (1, 0))), False)
        self.assertIs(self.told(is_dual, (3, (((1,),), ((1,),))), ((1,), (2,))), True)
        self.assertIs(self.told(is_dual, (3, (((1,),), ((1,),))), ((1,), (1,))), False)


class Bases(Calls):
    def test_base_of_small_nets(self):
        for net in ALL_SMALL:
            base, (dimensions, depth, width) = net[0], sizes_of(net)
            words = self.told(dual_base, net)
            rows = [flat(word) for word in words]
            for word in words:
                self.assertEqual([len(part) for part in word], [depth] * dimensions)
            self.assertEqual(len(words), dimensions * depth - slow_rank(base, rows_of(net)))
            self.assertTrue(are_in_stairs(rows))
            dual = {flat(word) for word in searched_dual(net)}
            self.assertEqual(dual, searched_sums(base, rows) if len(rows) < 7 and rows else dual)
            self.assertTrue(all(row in dual for row in rows))
            self.assertEqual(len(dual), base ** len(rows))

    def test_nought_alone(self):
        for base in BASES:
            for dimensions, depth, width in ((1, 1, 1), (1, 12, 12), (2, 3, 7), (6, 2, 12)):
                net = (base, tuple(unit_table(depth, width, depth * at) for at in range(dimensions)))
                self.assertEqual(self.told(dual_base, net), ())
                self.assertIsNone(self.told(least_word, net))

    def test_rows_of_noughts(self):
        net = (5, (table_of(2, 3, 0), table_of(2, 3, 0)))
        words = (((1, 0), (0, 0)), ((0, 1), (0, 0)), ((0, 0), (1, 0)), ((0, 0), (0, 1)))
        self.assertEqual(self.told(dual_base, net), words)
        self.assertEqual(stair_weight(net, self.told(least_word, net)), 1)

    def test_large_nets(self):
        for base in BASES:
            for net in (made_net("large", base, 6, 12, 12), poor_net("large", base, 6, 12, 12)):
                words = self.told(dual_base, net)
                self.assertTrue(are_in_stairs([flat(word) for word in words]))
                self.assertEqual(len(words), 72 - slow_rank(base, rows_of(net)))
                for word in words:
                    self.assertTrue(sum_nought(net, word))
                    self.assertIs(is_dual(net, word), True)
                    self.assertIs(is_dual(net, put(word, (5, 11), (word[5][11] + 1) % base)), not any(
                        net[1][5][11]))


class LeastWords(Calls):
    def check_least(self, net, word):
        base, (dimensions, depth, _) = net[0], sizes_of(net)
        self.assertEqual([len(part) for part in word], [depth] * dimensions)
        self.assertTrue(all(figure in range(base) for figure in flat(word)))
        self.assertTrue(any(flat(word)))
        self.assertTrue(sum_nought(net, word))

    def test_against_all_words(self):
        for net in ALL_SMALL:
            weights = [sum(searched_shape(word)) for word in searched_dual(net) if any(flat(word))]
            found = self.told(least_word, net)
            if not weights:
                self.assertIsNone(found)
            else:
                self.check_least(net, found)
                self.assertEqual(sum(searched_shape(found)), min(weights))

    def test_large_nets(self):
        for base in BASES:
            alike = (base, (unit_table(12, 12),) * 6)
            self.assertEqual(sum(searched_shape(self.told(least_word, alike))), 2)
            self.check_least(alike, least_word(alike))
            # Row 1 of the first table is row 4 of the second one, whose row 1 is row 10 of the first one.
            apart = (base, (unit_table(12, 12), unit_table(12, 12, 9)))
            self.assertEqual(self.told(least_word, apart)[0][1:], (0,) * 11)
            self.assertEqual(searched_shape(least_word(apart)), (1, 4))
            net = made_net("large", base, 6, 12, 12)
            found = least_word(net)
            self.check_least(net, found)
            for other in dual_base(net):
                self.assertLessEqual(sum(searched_shape(found)), sum(searched_shape(other)))

    def test_weight_above_the_width(self):
        net = (2, (((1, 0, 0), (0, 1, 0), (0, 0, 1), (0, 0, 0)),))
        self.assertEqual(self.told(least_word, net), ((0, 0, 0, 1),))
        self.assertEqual(stair_weight(net, least_word(net)), 4)


class NetsWithDual(Calls):
    def check_net(self, base, words):
        """The net of the words, its dual being their sums by all points, and its width the least one."""
        net = self.told(net_with_dual, base, words)
        self.assertIs(is_net(net), True)
        rows = [flat(word) for word in words]
        dimensions, depth = len(words[0]), len(words[0][0])
        width = dimensions * depth - slow_rank(base, rows)
        self.assertEqual(sizes_of(net), (dimensions, depth, max(width, 1)))
        self.assertEqual(net[0], base)
        return net

    def check_searched(self, base, words):
        net = self.check_net(base, words)
        self.assertEqual(net, searched_net(base, words))
        rows = [flat(word) for word in words]
        sums = {(0,) * len(rows[0])}
        for row in rows:
            sums = {tuple((a + k * b) % base for a, b in zip(one, row)) for one in sums for k in range(base)}
        self.assertEqual({flat(word) for word in searched_dual(net)}, sums)

    def test_some_words(self):
        for base, sizes in ((2, ((1, 1), (1, 4), (2, 2), (2, 3), (3, 2), (6, 1))), (3, ((1, 2), (2, 2), (4, 1))), (
                5, ((1, 2), (2, 1), (3, 1))), (7, ((1, 1), (1, 2), (3, 1)))):
            for dimensions, depth in sizes:
                for many in range(1, dimensions * depth + 2):
                    rows = made_rows("words", base, many, dimensions * depth)
                    words = tuple(word_of(row, depth) for row in rows)
                    self.check_searched(base, words)
                    zero = ((0,) * depth,) * dimensions
                    self.check_searched(base, words + words[:1] + (zero,))
                    self.check_searched(base, (zero,) + words[::-1])

    def test_duals_of_nets(self):
        for net in ALL_SMALL:
            words = dual_base(net)
            if words:
                found = net_with_dual(net[0], words)
                self.assertEqual(dual_base(found), words)
                self.assertEqual(points_of_all(found), points_of_all(net))
                self.assertEqual(sizes_of(found)[2], max(1, slow_rank(net[0], rows_of(net))))

    def test_noughts_the_same_bound_all(self):
        one, two = ((1, 0), (0, 1)), ((0, 1), (1, 1))
        zero, both = ((0, 0), (0, 0)), ((1, 1), (1, 0))
        known = self.told(net_with_dual, 2, (one, two))
        for words in ((two, one), (one, two, both), (one, one, two), (zero, one, two), (both, two, zero, both), (both, one)):
            self.assertEqual(self.told(net_with_dual, 2, words), known)
        full = (2, (unit_table(2, 4), unit_table(2, 4, 2)))
        self.assertEqual(self.told(net_with_dual, 2, (zero,)), full)
        self.assertEqual(self.told(net_with_dual, 2, (zero, zero, zero)), full)
        words = tuple(all_words(full))
        self.assertEqual(self.told(net_with_dual, 2, words), (2, (((0,), (0,)), ((0,), (0,)))))
        self.assertEqual(self.told(net_with_dual, 7, (((6,),),)), (7, (((0,),),)))
        self.assertEqual(self.told(net_with_dual, 7, (((0,),),)), (7, (((1,),),)))
        self.assertEqual(self.told(net_with_dual, 3, (((1, 1),),)), (3, (((1,), (2,)),)))
        self.assertEqual(self.told(net_with_dual, 5, (((1,), (2,)),)), (5, (((1,),), ((2,),))))

    def test_any_number_of_words(self):
        for base in BASES:
            rows = made_rows("many", base, 300, 8)
            words = tuple(word_of(row, 4) for row in rows)
            self.assertEqual(net_with_dual(base, words), (base, (((0,),) * 4,) * 2))
            again = tuple(word_of(rows[at % 3], 4) for at in range(500))
            self.assertEqual(net_with_dual(base, again), net_with_dual(base, again[:3]))

    def test_width_of_12_and_of_13(self):
        for base in BASES:
            zero = ((0,) * 7,) * 2
            unit = [word_of(row, 7) for row in unit_table(14, 14)]
            net = self.check_net(base, (unit[3], zero, unit[8]))
            self.assertEqual(sizes_of(net), (2, 7, 12))
            self.assertEqual(dual_base(net), (unit[3], unit[8]))
            self.too_many(13, base, (unit[3],))
            self.too_many(13, base, (zero, unit[3], unit[3], zero))
            self.too_many(14, base, (zero,))
            self.assertEqual(sizes_of(self.check_net(base, (((0,) * 12,),))), (1, 12, 12))
            self.assertEqual(sizes_of(self.check_net(base, (((0,) * 2,) * 6,))), (6, 2, 12))
            self.too_many(72, base, (((0,) * 12,) * 6,))
            self.too_many(71, base, (((1,) * 12,) * 6,) * 100)
            rows = made_rows("wide", base, 70, 72)
            self.assertEqual(slow_rank(base, rows[:60]), 60)
            words = tuple(word_of(row, 12) for row in rows)
            self.assertEqual(sizes_of(self.check_net(base, words[:60])), (6, 12, 12))
            self.too_many(13, base, words[:59])
            large = made_net("large", base, 6, 12, 12)
            self.assertEqual(dual_base(net_with_dual(base, dual_base(large))), dual_base(large))
            self.assertIs(are_same_points(net_with_dual(base, dual_base(large)), large), True)

    def too_many(self, number, base, words):
        self.told_number(TooMany, "given", number, net_with_dual, base, words)


class SharedPoints(Calls):
    def check_pair(self, net, other):
        points, others = points_of_all(net), points_of_all(other)
        self.assertIs(are_same_points(net, other), points == others)
        self.assertIs(is_inside(net, other), points <= others)
        start = outside_start(net, other)
        if points <= others:
            self.assertIsNone(start)
        else:
            self.assertEqual([type(start), len(start)], [tuple, sizes_of(net)[2]])
            self.assertIn(dict(points_by_starts(net))[start], points - others)

    def test_by_all_points(self):
        for base, sizes in ((2, ((1, 2), (2, 2), (3, 1), (1, 4))), (3, ((1, 2), (2, 1), (2, 2))), (5, ((1, 2), (2, 1))), (
                7, ((1, 1), (2, 1)))):
            for dimensions, depth in sizes:
                nets = [(base, (table_of(depth, 1, 0),) * dimensions), (base, (table_of(depth, 3, 0),) * dimensions)]
                for width in (1, 2, 3) if base < 7 else (1, 2):
                    nets += [made_net(seed, base, dimensions, depth, width) for seed in "abc"]
                    nets += [poor_net(seed, base, dimensions, depth, width) for seed in "ab"]
                nets += [net_with_dual(base, dual_base(net)) for net in nets if dual_base(net)]
                for net, other in itertools.product(nets, repeat=2):
                    self.check_pair(net, other)

    def test_all_ways_of_calling(self):
        nets = [BITS, FLAT, (2, (table_of(2, 1, 0), table_of(2, 1))), (2, (unit_table(2, 4), unit_table(2, 4, 2)))]
        for net, other in itertools.product(nets, repeat=2):
            for function in OF_BOTH:
                self.told(function, net, other)

    def test_one_way_alone(self):
        wide, narrow = (2, (unit_table(2, 4), unit_table(2, 4, 2))), BITS
        self.assertIs(is_inside(narrow, wide), True)
        self.assertIs(is_inside(wide, narrow), False)
        self.assertIs(are_same_points(narrow, wide), False)
        self.assertIs(are_same_points(wide, narrow), False)
        self.assertIsNone(outside_start(narrow, wide))
        self.assertEqual(len(outside_start(wide, narrow)), 4)

    def test_the_same_points_several_times(self):
        once, twice = (3, (((1,), (2,)),)), (3, (((1, 2, 0), (2, 1, 0)),))
        for net, other in ((once, twice), (twice, once), (once, once)):
            self.assertIs(self.told(are_same_points, net, other), True)
            self.assertIs(self.told(is_inside, net, other), True)
            self.assertIsNone(self.told(outside_start, net, other))

    def test_large_nets(self):
        for base in BASES:
            net, other = made_net("large", base, 6, 12, 12), made_net("other", base, 6, 12, 12)
            # The columns the other way round, and the first one of them twice.
            turned = (base, tuple(tuple(row[::-1] for row in table) for table in net[1]))
            poorer = (base, tuple(tuple(row[:1] + row[:11] for row in table) for table in net[1]))
            self.assertIs(self.told(are_same_points, net, turned), True)
            self.assertIs(self.told(is_inside, poorer, net), True)
            self.assertIs(self.told(is_inside, net, poorer), False)
            self.assertIs(self.told(are_same_points, net, poorer), False)
            self.assertIsNone(self.told(outside_start, poorer, net))
            for first, second in ((net, poorer), (net, other), (other, net)):
                start = self.told(outside_start, first, second)
                figures = flat(point_of(first, start))
                columns = [flat(point_of(second, row)) for row in unit_table(12, 12)]
                self.assertEqual(slow_rank(base, columns + [figures]), slow_rank(base, columns) + 1)


if __name__ == "__main__":
    unittest.main()
