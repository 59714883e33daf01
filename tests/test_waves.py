"""Points 17 to 20, and evennets/waves.py: rests, mean errors, error squares, gains and scrambles."""

import itertools
import random
import unittest
from fractions import Fraction

from evennets.errors import InvalidDepths, InvalidNet, InvalidShape, InvalidValues, InvalidWeights, InvalidWord, TooMany
from evennets.evens import is_even
from evennets.shapes import shape_count
from evennets.waves import error_square, gain, mean_error, rests, scrambled_square
from tests.checks import Calls, given, indexed
from tests.samples import (
    BASES, any_values, made_net, never_fractions, never_fractions_from_nought, put, table_of, wrong_nets)
from tests.searches import (
    all_boxes, all_depths, all_words, begun, points_by_starts, poor_net, searched_dual, searched_shape, sizes_of,
    small_nets, unit_table, weighed)

UNIT, TURNED = ((1, 0), (0, 1)), ((0, 1), (1, 0))
BITS, FLAT = (2, (UNIT, TURNED)), (2, (UNIT, UNIT))
ALL_SMALL = [net for base in BASES for net in small_nets(base)]
SOME_SMALL = ALL_SMALL[::4]
WRONG_NETS = given(InvalidNet, wrong_nets() + any_values())
# By base the greatest width of a net with up to 4096 starts.
GREATEST = {2: 12, 3: 7, 5: 5, 7: 4}
ONE, NIL = (1, 1), (0, 1)


def pair(fraction):
    """A fraction of Python's own as the package tells it."""
    return fraction.numerator, fraction.denominator


def made_fractions(seed, many, least=-9):
    chance = random.Random(repr((seed, many)))
    return tuple(pair(Fraction(chance.randint(least, 9), chance.randint(1, 12))) for _ in range(many))


def searched_error(net, depths, values):
    """The mean error, by a walk over all starts."""
    worth = dict(zip(all_boxes(net, depths), [Fraction(*value) for value in values]))
    points = [begun(point, depths) for _, point in points_by_starts(net)]
    return sum(worth[box] for box in points) / len(points) - sum(worth.values()) / len(worth)


def measure(net, gammas, word):
    answer = Fraction(1)
    for gamma, one in zip(gammas, searched_shape(word)):
        answer *= Fraction(*gamma) / net[0] ** (2 * one) if one else 1
    return answer


def searched_square(net, gammas):
    """The error square, as the sum over all dual words."""
    return sum((measure(net, gammas, word) for word in searched_dual(net) if any(map(any, word))), Fraction(0))


def mean_over_points(net, gammas):
    """The error square, as the mean over the points of all starts."""
    base, depth = net[0], sizes_of(net)[1]
    total, points = Fraction(0), [point for _, point in points_by_starts(net)]
    for point in points:
        product = Fraction(1)
        for gamma, figures in zip(gammas, point):
            noughts = next((at for at, figure in enumerate(figures) if figure), depth)
            worth = sum(Fraction(base - 1, base ** (v + 1)) for v in range(1, noughts + 1))
            worth -= Fraction(1, base ** (noughts + 2)) if noughts < depth else 0
            product *= 1 + Fraction(*gamma) * worth
        total += product
    return total / len(points) - 1


def parts_by_shapes(net, values):
    """For each shape the sum of the squares of the lengths of a function's parts at its words.

    The mean of the square of what is left of the function when it is evened out over the boxes of
    some depths is the sum over all shapes within these.
    """
    full = (sizes_of(net)[1],) * len(net[1])
    worth = dict(zip(all_boxes(net, full), [Fraction(*value) for value in values]))
    within = {}
    for depths in all_depths(net):
        sums = {}
        for box, value in worth.items():
            sums.setdefault(begun(box, depths), []).append(value)
        within[depths] = sum((sum(one) / len(one)) ** 2 for one in sums.values()) / len(sums)
    found = {}
    for shape in within:
        found[shape] = Fraction(0)
        for less in itertools.product((0, 1), repeat=len(shape)):
            if all(a >= b for a, b in zip(shape, less)):
                found[shape] += (-1) ** sum(less) * within[tuple(a - b for a, b in zip(shape, less))]
    return found


def scrambles_of_one(base, depth):
    """All ways to exchange the figures of one dimension, each as a dict from figures to figures."""
    ways = [{(): ()}]
    for length in range(depth):
        orders = list(itertools.permutations(range(base)))
        longer = []
        for way in ways:
            ends = [figures for figures in way if len(figures) == length]
            for chosen in itertools.product(orders, repeat=len(ends)):
                more = dict(way)
                for figures, order in zip(ends, chosen):
                    more.update({figures + (at,): way[figures] + (order[at],) for at in range(base)})
                longer.append(more)
        ways = longer
    return ways


class Rests(Calls):
    def test_by_a_walk_over_all_starts(self):
        for net in ALL_SMALL:
            base = net[0]
            points = [point for _, point in points_by_starts(net)]
            for word in all_words(net)[::7] + searched_dual(net)[:3]:
                found = [weighed(base, word, point) for point in points]
                self.assertEqual(rests(net, word), tuple(found.count(rest) for rest in range(base)))

    def test_all_ways_of_calling(self):
        for net in SOME_SMALL:
            for word in (all_words(net)[0], all_words(net)[-1]):
                self.assertEqual(sum(self.told(rests, net, word)), net[0] ** sizes_of(net)[2])

    def test_the_greatest_net(self):
        for base in BASES:
            net = (base, (unit_table(12, 12),) * 6)
            word = ((1,) + (0,) * 11, (base - 1,) + (0,) * 11) + ((0,) * 12,) * 4
            self.assertEqual(self.told(rests, net, word), (base ** 12,) + (0,) * (base - 1))
            self.assertEqual(self.told(rests, net, put(word, (5, 11), 1)), (base ** 11,) * base)

    def test_wrong_arguments(self):
        self.check_wrong(rests, (BITS, ((1, 0), (0, 1))), WRONG_NETS, given(InvalidWord, any_values() + [
            ((1, 0),), ((1, 0), (2, 0)), ((1, 0), (0, True)), [(1, 0), (0, 1)], ((1, 0), (0, 1, 0)), ((1, 0),) * 3,
            ((1, 0), [0, 1]), ((0,), (0,)), ((1, 0), (-1, 0))]))


class MeanErrors(Calls):
    def test_by_a_walk_over_all_starts(self):
        for net in SOME_SMALL:
            for depths in all_depths(net)[::2]:
                boxes = net[0] ** sum(depths)
                if boxes <= 700:
                    values = made_fractions(depths, boxes)
                    self.assertEqual(self.told(mean_error, net, depths, values), pair(searched_error(net, depths, values)))

    def test_boxes_are_in_order(self):
        net = (2, (((1, 0, 0), (0, 1, 0)), ((0, 0, 1), (0, 0, 0))))
        for depths in all_depths(net):
            boxes = all_boxes(net, depths)
            self.assertEqual(boxes, sorted(boxes))
            points = [begun(point, depths) for _, point in points_by_starts(net)]
            for at, box in enumerate(boxes):
                values = tuple(ONE if index == at else NIL for index in range(len(boxes)))
                wanted = Fraction(points.count(box), 8) - Fraction(1, len(boxes))
                self.assertEqual(mean_error(net, depths, values), pair(wanted))

    def test_nought_for_all_functions_exactly_if_even(self):
        for net in SOME_SMALL:
            for depths in all_depths(net):
                many = net[0] ** sum(depths)
                if many > 100:
                    continue
                singles = [tuple(ONE if at == index else NIL for index in range(many)) for at in range(many)]
                errors = [mean_error(net, depths, values) for values in singles]
                self.assertIs(is_even(net, depths), all(error == NIL for error in errors))
                if is_even(net, depths):
                    self.assertEqual(mean_error(net, depths, made_fractions("even", many)), NIL)

    def test_constants_and_signs(self):
        for net in (BITS, FLAT):
            self.assertEqual(self.told(mean_error, net, (0, 0), ((5, 3),)), NIL)
            for value in ((5, 3), (-7, 2), (10 ** 399, 1), (1, 10 ** 399)):
                self.assertEqual(self.told(mean_error, net, (1, 1), (value,) * 4), NIL)
        self.assertEqual(self.told(mean_error, FLAT, (1, 1), (NIL, ONE, NIL, NIL)), (-1, 4))
        self.assertEqual(self.told(mean_error, FLAT, (1, 1), (NIL, (-1, 3), NIL, NIL)), (1, 12))
        self.assertEqual(self.told(mean_error, FLAT, (1, 1), ((10 ** 399, 1), NIL, NIL, NIL)), (10 ** 399 // 4, 1))

    def test_just_4096_boxes(self):
        for base, depths in ((2, (12, 0)), (2, (6, 6)), (3, (4, 3)), (5, (2, 3)), (7, (4, 0))):
            net = made_net("boxes", base, 2, 12, 2)
            many = base ** sum(depths)
            values = made_fractions("boxes", many)
            worth = [Fraction(*value) for value in values]
            boxes = {box: value for box, value in zip(all_boxes(net, depths), worth)}
            points = [begun(point, depths) for _, point in points_by_starts(net)]
            wanted = sum(boxes[point] for point in points) / len(points) - sum(worth) / many
            self.assertEqual(self.told(mean_error, net, depths, values), pair(wanted))

    def test_more_than_4096_boxes_whatever_is_passed(self):
        for base, depths in ((2, (12, 1)), (2, (7, 6)), (3, (4, 4)), (5, (3, 3)), (7, (5, 0)), (7, (12, 12))):
            for width in (2, 12):
                net = made_net("boxes", base, 2, 12, width)
                for values in (None, (), (ONE,), [ONE], (ONE,) * 8192, "values", ((0, 2),), (None,) * 4096):
                    self.told_number(TooMany, "given", base ** sum(depths), mean_error, net, depths, values)

    def test_starts(self):
        for base in BASES:
            net = (base, (unit_table(2, GREATEST[base]),))
            values = made_fractions("starts", base ** 2)
            self.assertEqual(self.told(mean_error, net, (2,), values), NIL)
            if base > 2:
                width = GREATEST[base] + 1
                net = (base, (unit_table(2, width),))
                for depths in ((0,), (1,), (2,)):
                    values = made_fractions("starts", base ** depths[0])
                    self.told_number(TooMany, "given", base ** width, mean_error, net, depths, values)
                    self.told_number(InvalidValues, "index", None, mean_error, net, depths, values + (ONE,))
                    wrong = values[:-1] + ((2, 4),)
                    self.told_number(InvalidValues, "index", len(values) - 1, mean_error, net, depths, wrong)
                self.told_number(TooMany, "given", 7 ** 12, mean_error, (7, (table_of(1, 12),)), (0,), (ONE,))

    def test_wrong_arguments(self):
        no_tuple = [(value, None) for value in any_values() + [(), (ONE,), (ONE,) * 3, (ONE,) * 5, [ONE] * 4]]
        at_places = [
            ((ONE,) * at + (wrong,) + (NIL,) * (3 - at), at) for at in (0, 1, 3) for wrong in never_fractions()]
        later = [((ONE, (0, 2), None, ONE), 1), ((ONE, ONE, (1, -2), (2, 2)), 2), ((None, (1, 0)), None)]
        self.check_wrong(
            mean_error, (BITS, (1, 1), (ONE,) * 4), WRONG_NETS,
            given(InvalidDepths, any_values() + [(1,), (1, 1, 1), (3, 0), (0, -1), (True, 1), [1, 1], (1, None)]),
            indexed(InvalidValues, *no_tuple, *at_places, *later))

    def test_negative_values_are_let(self):
        self.assertEqual(self.told(mean_error, FLAT, (1, 0), ((-1, 2), (-3, 7))), NIL)


class ErrorSquares(Calls):
    def test_over_all_dual_words_and_over_all_points(self):
        for number, net in enumerate(ALL_SMALL):
            for gammas in (made_fractions(number, len(net[1]), 0), (ONE,) * len(net[1])):
                found = self.told(error_square, net, gammas)
                self.assertEqual(found, pair(searched_square(net, gammas)))
                self.assertEqual(found, pair(mean_over_points(net, gammas)))

    def test_gammas_of_nought_leave_dimensions_out(self):
        for net in SOME_SMALL:
            many = len(net[1])
            self.assertEqual(self.told(error_square, net, (NIL,) * many), NIL)
            for at in range(many):
                gammas = put((NIL,) * many, (at,), (2, 3))
                self.assertEqual(error_square(net, gammas), error_square((net[0], (net[1][at],)), ((2, 3),)))

    def test_for_all_functions_and_just_for_one(self):
        # Over the base 2 waves are 1 and -1, so that functions and parts are fractions.
        for net in [net for net in small_nets(2) if len(net[1]) * sizes_of(net)[1] < 7][::3]:
            full = (sizes_of(net)[1],) * len(net[1])
            gammas = made_fractions("worst", len(net[1]), 1)
            square = Fraction(*error_square(net, gammas))
            worst = {
                word: measure(net, gammas, word) for word in searched_dual(net) if any(map(any, word))}
            some = {word: Fraction(len(str(word)) + at % 5 - 3, 4) for at, word in enumerate(all_words(net))}
            for parts in (worst, some):
                values = tuple(
                    pair(sum((part * (-1) ** weighed(2, word, box) for word, part in parts.items()), Fraction(0)))
                    for box in all_boxes(net, full))
                error = Fraction(*mean_error(net, full, values))
                size = sum(part ** 2 / measure(net, gammas, word) for word, part in parts.items())
                self.assertLessEqual(error ** 2, square * size)
                if parts is worst:
                    self.assertEqual(error ** 2, square * size)

    def test_large_fractions(self):
        gammas = ((10 ** 399, 10 ** 399 + 1), (10 ** 398 + 1, 10 ** 399))
        self.assertEqual(self.told(error_square, BITS, gammas), pair(searched_square(BITS, gammas)))

    def test_starts(self):
        for base in BASES:
            net = (base, (unit_table(3, GREATEST[base]),) * 2)
            square = self.told(error_square, net, (ONE, (1, 2)))
            wanted = Fraction(0)
            for one in range(1, 4):
                wanted += (base ** one - base ** (one - 1)) * Fraction(1, base ** (4 * one)) / 2
            self.assertEqual(square, pair(wanted))
            if base > 2:
                net = (base, (unit_table(3, GREATEST[base] + 1),) * 2)
                self.told_number(TooMany, "given", base ** (GREATEST[base] + 1), error_square, net, (ONE, NIL))
                self.told_number(InvalidWeights, "index", 1, error_square, net, (ONE, (-1, 2)))
                self.told_number(InvalidWeights, "index", None, error_square, net, (ONE,))

    def test_the_greatest_net(self):
        net = (2, (table_of(12, 12, 0),) * 6)
        wanted = (1 + sum(Fraction(2 ** (one - 1), 2 ** (2 * one)) for one in range(1, 13))) ** 6 - 1
        self.assertEqual(self.told(error_square, net, (ONE,) * 6), pair(wanted))

    def test_wrong_arguments(self):
        no_tuple = [(value, None) for value in any_values() + [(), (ONE,), (ONE,) * 3, [ONE] * 2]]
        no_tuple = [(value, index) for value, index in no_tuple if not (isinstance(value, tuple) and len(value) == 2)]
        first = [((wrong, ONE), 0) for wrong in never_fractions_from_nought()]
        second = [((ONE, wrong), 1) for wrong in never_fractions_from_nought()]
        self.check_wrong(
            error_square, (BITS, (ONE, NIL)), WRONG_NETS,
            indexed(InvalidWeights, *no_tuple, *first, *second, ((None, (-1, 1)), 0)))


class Gains(Calls):
    def test_by_counts(self):
        for net in ALL_SMALL:
            dual, words = searched_dual(net), all_words(net)
            of_dual = [searched_shape(word) for word in dual]
            of_all = [searched_shape(word) for word in words]
            for shape in all_depths(net)[::2]:
                wanted = Fraction(of_dual.count(shape), of_all.count(shape))
                self.assertEqual(self.told(gain, net, shape), pair(wanted))

    def test_the_shape_of_noughts(self):
        for net in SOME_SMALL:
            self.assertEqual(self.told(gain, net, (0,) * len(net[1])), ONE)

    def test_the_greatest_net(self):
        for base in BASES:
            net = (base, (table_of(12, 12, 0),) * 6)
            self.assertEqual(self.told(gain, net, (12,) * 6), ONE)
            net = made_net("gain", base, 6, 12, 12)
            for shape in ((12,) * 6, (3, 0, 4, 0, 5, 6)):
                words = 1
                for one in shape:
                    words *= (base - 1) * base ** (one - 1) if one else 1
                self.assertEqual(self.told(gain, net, shape), pair(Fraction(shape_count(net, shape), words)))

    def test_wrong_arguments(self):
        self.check_wrong(gain, (BITS, (1, 2)), WRONG_NETS, given(InvalidShape, any_values() + [
            (1,), (1, 1, 1), (3, 0), (0, -1), (True, 1), [1, 1], (1, None), (1, "1")]))


class Scrambles(Calls):
    def test_sums_of_gains(self):
        for net in SOME_SMALL:
            shapes = all_depths(net)
            fractions = made_fractions("sums", len(shapes), 0)
            sums = tuple(zip(shapes, fractions))[:60]
            wanted = sum((Fraction(*gain(net, one)) * Fraction(*more) for one, more in sums if any(one)), Fraction(0))
            self.assertEqual(self.told(scrambled_square, net, sums), pair(wanted))
            self.assertEqual(self.told(scrambled_square, net, ()), NIL)
            self.assertEqual(self.told(scrambled_square, net, sums[:1] * 5), NIL)
            last = sums[-1:]
            wanted = 3 * Fraction(*gain(net, last[0][0])) * Fraction(*last[0][1])
            self.assertEqual(self.told(scrambled_square, net, last * 3), pair(wanted))

    def test_over_all_scrambles(self):
        """The mean, over all scrambles, of the square of a function's mean error."""
        for base, dimensions, depth, width in (
                (2, 1, 1, 1), (2, 1, 2, 1), (2, 1, 3, 2), (2, 2, 1, 1), (2, 2, 2, 2), (2, 3, 1, 2), (3, 1, 1, 1), (3, 2, 1, 1),
                (5, 1, 1, 1)):
            for net in (made_net("s", base, dimensions, depth, width), poor_net("s", base, dimensions, depth, width)):
                full = (depth,) * dimensions
                values = made_fractions("scrambled", base ** sum(full))
                worth = dict(zip(all_boxes(net, full), [Fraction(*value) for value in values]))
                mean = sum(worth.values()) / len(worth)
                points = [point for _, point in points_by_starts(net)]
                squares = []
                for ways in itertools.product(scrambles_of_one(base, depth), repeat=dimensions):
                    moved = [tuple(way[one] for way, one in zip(ways, point)) for point in points]
                    squares.append((sum(worth[point] for point in moved) / len(moved) - mean) ** 2)
                sums = tuple((shape, pair(one)) for shape, one in parts_by_shapes(net, values).items())
                self.assertEqual(self.told(scrambled_square, net, sums), pair(sum(squares) / len(squares)))

    def test_many_pairs(self):
        net = made_net("many", 3, 6, 12, 12)
        sums = (((12,) * 6, (1, 3)), ((1, 0, 0, 0, 0, 0), (10 ** 399, 7))) * 10
        wanted = 10 * (Fraction(*gain(net, sums[0][0])) / 3 + Fraction(*gain(net, sums[1][0])) * Fraction(10 ** 399, 7))
        self.assertEqual(self.told(scrambled_square, net, sums), pair(wanted))

    def test_wrong_arguments(self):
        right = ((1, 2), (3, 4))
        no_tuple = [(value, None) for value in any_values() if not isinstance(value, tuple)]
        tuples = [(value, 0) for value in any_values() if isinstance(value, tuple) and value]
        pairs = [
            ((right, wrong, right, None), 1) for wrong in any_values() + [
                ((1, 2),), ((1, 2), ONE, ONE), [(1, 2), ONE], (ONE, (3, 0, 0)), ((3, 4), (1, 2)), (ONE,), ((1,), ONE),
                ((1, 2, 0), ONE), ((True, 0), ONE), ((1, -1), ONE), ([1, 2], ONE)]]
        fractions = [((right, right, ((1, 2), wrong)), 2) for wrong in never_fractions_from_nought()]
        self.check_wrong(
            scrambled_square, (BITS, (right,)), WRONG_NETS,
            indexed(InvalidWeights, *no_tuple, *tuples, *pairs, *fractions, ((((0, 0), (-1, 2)),), 0)))


if __name__ == "__main__":
    unittest.main()
