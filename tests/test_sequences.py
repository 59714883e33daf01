"""Points 24 to 26, and evennets/sequences.py: rows of polynomials, tight powers, Pascal and turned nets."""

import itertools
import unittest
from math import comb

from evennets.errors import (
    InvalidBase, InvalidNet, InvalidNumber, InvalidPolynomial, InvalidPolynomials, TooMany)
from evennets.evens import loss, strength
from evennets.nets import is_net
from evennets.sequences import narrowed, pascal_net, row_at, sequence_net, sure_loss, tight_powers, with_turned
from tests.checks import Calls, given, indexed
from tests.polynomials import (
    are_tight, divided, gcd_degree, have_common_factor, made_apart, made_polynomial, never_polynomials, polynomials_of,
    times)
from tests.samples import BASES, any_values, made_net, never_bases, never_numbers, wrong_nets
from tests.searches import rows_of, sizes_of, slow_rank, small_nets

WRONG_NETS, WRONG_BASES = given(InvalidNet, wrong_nets() + any_values()), given(InvalidBase, never_bases())
WRONG_NUMBERS = given(InvalidNumber, never_numbers(1, 12))
ALL_SMALL = [net for base in BASES for net in small_nets(base)]
X, ONE_MORE, SQUARE = (0, 1), (1, 1), (1, 1, 1)


def searched_row(base, polynomial, place, width):
    """The row, off the quotient without a rest of x^(r + width) by f^q: its figures from the highest power down."""
    degree = len(polynomial) - 1
    q, r = (place - 1) // degree + 1, (place - 1) % degree
    below = (1,)
    for _ in range(q):
        below = times(base, below, polynomial)
    quotient = divided(base, (0,) * (r + width) + (1,), below)[0]
    return tuple(quotient[width - 1 - at] if width - 1 - at < len(quotient) else 0 for at in range(width))


def some_polynomials(base):
    """Tuples of polynomials without common factors, of few and of many degrees."""
    found = [
        made_apart((number, "some"), base, degrees) for number, degrees in enumerate((
            (1,), (2,), (3,), (6,), (1, 1), (1, 2), (2, 3), (1, 1, 2), (3, 4), (1, 2, 3), (6, 6), (1, 1, 2, 3, 4), (2, 2, 3, 3),
            (4, 5, 6), (1, 1, 2, 3, 4, 5), (6, 5, 5, 4, 4, 3)))]
    return found + [((0, 1),), ((0, 0, 1),), ((0,) * 6 + (1,),), ((0, base - 1), (1, 0, 1))]


class Rows(Calls):
    def test_figures_of_quotients(self):
        for base in BASES:
            for degree in range(1, 7):
                for seed in range(3):
                    one = made_polynomial(("rows", seed), base, degree)
                    for place in (1, 2, 3, 5, 6, 7, 12, 13, 29):
                        for width in (1, 2, 9, 40):
                            wanted = searched_row(base, one, place, width)
                            self.assertEqual(row_at(base, one, place, width), wanted)

    def test_all_small_polynomials(self):
        for base in BASES:
            for degree in (1, 2):
                for one in polynomials_of(base, degree):
                    for place in range(1, 6):
                        self.assertEqual(row_at(base, one, place, 8), searched_row(base, one, place, 8))

    def test_what_the_figures_mean(self):
        # f^q times the quotient is x^r: the product's figures at the powers from -1 down are 0.
        for base, one in ((2, SQUARE), (3, (2, 0, 2)), (5, (3, 4)), (7, (0, 0, 3))):
            degree = len(one) - 1
            for place in range(1, 9):
                q, r = (place - 1) // degree + 1, (place - 1) % degree
                row, below = self.told(row_at, base, one, place, 30), (1,)
                for _ in range(q):
                    below = times(base, below, one)
                product = times(base, row[::-1], below)
                product += (0,) * (30 + len(below) - len(product))
                self.assertEqual(product[30:], tuple(int(at == r) for at in range(len(product) - 30)))
                self.assertFalse(any(product[len(below):30]))

    def test_places_and_widths_to_200(self):
        for base, one in ((2, X), (2, ONE_MORE), (3, (1, 2, 1)), (7, (3, 0, 0, 0, 0, 1, 2)), (5, (4, 3))):
            for place, width in ((200, 200), (1, 200), (200, 1), (199, 150)):
                self.assertEqual(self.told(row_at, base, one, place, width), searched_row(base, one, place, width))

    def test_last_figures_other_than_one(self):
        self.assertEqual(self.told(row_at, 3, (0, 2), 1, 3), (2, 0, 0))
        self.assertEqual(self.told(row_at, 3, (0, 2), 2, 3), (0, 1, 0))
        self.assertEqual(self.told(row_at, 5, (1, 2), 1, 3), (3, 1, 2))

    def test_wrong_arguments(self):
        for base in BASES:
            wrong = given(InvalidPolynomial, any_values() + never_polynomials(base, 1, 6))
            numbers = given(InvalidNumber, never_numbers(1, 200))
            self.check_wrong(row_at, (base, (1, 1), 5, 5), WRONG_BASES, wrong, numbers, numbers)


class SequenceNets(Calls):
    def test_rows(self):
        for base in BASES:
            for polynomials in some_polynomials(base):
                for depth, width in ((1, 1), (3, 5), (12, 12), (7, 2)):
                    net = self.told(sequence_net, base, polynomials, depth, width)
                    self.assertTrue(is_net(net))
                    self.assertEqual(net, (base, tuple(
                        tuple(searched_row(base, one, place, width) for place in range(1, depth + 1))
                        for one in polynomials)))

    def test_strength_at_all_widths_and_depths(self):
        for base in BASES:
            for polynomials in some_polynomials(base):
                sure = self.told(sure_loss, base, polynomials)
                self.assertEqual(sure, sum(len(one) - 2 for one in polynomials))
                for depth, width in itertools.product((1, 2, 5, 12), (1, 2, 3, 7, 11, 12)):
                    if len(polynomials) < 5 or width < 9:
                        net = sequence_net(base, polynomials, depth, width)
                        free = slow_rank(base, rows_of(net)) == len(rows_of(net))
                        self.assertTrue(free or strength(net) >= width - sure)

    def test_degrees_of_one_lose_nothing(self):
        for base in BASES:
            polynomials = tuple((one, 1) for one in range(min(base, 6)))
            self.assertEqual(self.told(sure_loss, base, polynomials), 0)
            for width in range(1, 13):
                self.assertEqual(strength(sequence_net(base, polynomials, width, width)), width)

    def test_wrong_arguments(self):
        for base in BASES:
            wrong = self.wrong_polynomials(base)
            right = ((1, 1), (0, 1))
            self.check_wrong(sequence_net, (base, right, 2, 3), WRONG_BASES, wrong, WRONG_NUMBERS, WRONG_NUMBERS)
            for function in (sure_loss, tight_powers):
                self.check_wrong(function, (base, right), WRONG_BASES, wrong)

    def wrong_polynomials(self, base):
        right = made_apart("right", base, (1, 2, 3, 4, 5, 6))
        self.assertEqual(len(right), 6)
        seventh = next(
            one for one in polynomials_of(base, 5) if not any(gcd_degree(base, one, other) for other in right))
        pairs = [(value, None) for value in any_values() if not isinstance(value, tuple)] + [((), None), ([(1, 1)], None)]
        for wrong in any_values() + never_polynomials(base, 1, 6):
            pairs += [((wrong,), 0), ((right[3], wrong), 1), (right[:5] + (wrong, None), 5)]
        common = times(base, right[0], (1, 1))
        pairs += [
            ((right[0], right[0]), 1), ((right[0], common), 1), ((common, right[0], None), 1),
            (right[:3] + (right[1],), 3), (right + right[:1], 6), (right + (seventh,), 6), (right + (None,), 6),
            ((right[2], tuple(2 * one % base for one in right[2])) if base > 2 else (right[2], right[2]), 1),
            (((0, 1), (0, 0, 1)), 1), ((right[0], common, None), 1), ((None, right[0], right[0]), 0)]
        return indexed(InvalidPolynomials, *pairs)

    def test_common_factors(self):
        for base in BASES:
            some = [one for degree in (1, 2, 3) for one in polynomials_of(base, degree)][::1 if base == 2 else 8 * base]
            some = some[:24]
            for one, other in itertools.product(some, repeat=2):
                if have_common_factor(base, one, other):
                    self.told_number(InvalidPolynomials, "index", 1, sure_loss, base, (one, other))
                else:
                    self.assertEqual(sure_loss(base, (one, other)), len(one) + len(other) - 4)

    def test_up_to_six(self):
        right = made_apart("six", 2, (1, 1, 2, 3, 3, 4))
        self.assertEqual(self.told(sure_loss, 2, right), 8)
        self.assertEqual(len(self.told(sequence_net, 2, right, 12, 12)[1]), 6)


class TightPowers(Calls):
    def test_by_the_words_of_the_document(self):
        for base in BASES:
            for polynomials in some_polynomials(base):
                powers = self.told(tight_powers, base, polynomials)
                self.assertIs(type(powers), tuple)
                self.assertEqual(len(powers), len(polynomials))
                self.assertTrue(all(type(one) is int and one > 0 for one in powers))
                self.assertTrue(are_tight(base, polynomials, powers), (base, polynomials, powers))

    def test_all_pairs_of_small_polynomials(self):
        for base in BASES:
            some = [one for degree in (1, 2, 3) for one in polynomials_of(base, degree)][::1 if base == 2 else 11 * base]
            for one, other in itertools.product(some, repeat=2):
                if not gcd_degree(base, one, other):
                    self.assertTrue(are_tight(base, (one, other), tight_powers(base, (one, other))))

    def test_single_polynomials(self):
        for base in BASES:
            for degree in range(1, 7):
                one = made_polynomial("single", base, degree)
                (power,) = self.told(tight_powers, base, (one,))
                self.assertGreaterEqual(power * degree, 2)

    def test_six_of_the_greatest_degree(self):
        for base in BASES:
            polynomials = made_apart("great", base, (6,) * 6)
            self.assertGreater(len(polynomials), 3)
            self.assertTrue(are_tight(base, polynomials, self.told(tight_powers, base, polynomials)))

    def test_bound_rows_at_the_width(self):
        """With a sum M the rows at the first e (q - 1) + 1 places are bound at the width M - 1: point 25."""
        checked = 0
        for base in BASES:
            for polynomials in some_polynomials(base):
                powers = tight_powers(base, polynomials)
                degrees = [len(one) - 1 for one in polynomials]
                whole = sum(e * q for e, q in zip(degrees, powers))
                places = [e * (q - 1) + 1 for e, q in zip(degrees, powers)]
                if whole <= 60:
                    checked += 1
                    rows = [
                        row_at(base, one, place, whole - 1)
                        for one, many in zip(polynomials, places) for place in range(1, many + 1)]
                    self.assertEqual(len(rows), whole - sum(degrees) + len(degrees))
                    self.assertLess(slow_rank(base, rows), len(rows))
        self.assertGreater(checked, 15)


def pascal(base, dimensions, width):
    """The net by the words of point 26."""
    tables = []
    for i in range(dimensions):
        rows = []
        for j in range(1, width + 1):
            rows.append(tuple(
                comb(r, j - 1) * (1 if r == j - 1 else i ** (r - j + 1)) % base if r >= j - 1 else 0 for r in range(width)))
        tables.append(tuple(rows))
    return base, tuple(tables)


class PascalNets(Calls):
    def test_rows(self):
        for base in BASES:
            for width in range(1, 13):
                for dimensions in range(1, min(base, 6) + 1):
                    wanted = pascal(base, dimensions, width)
                    self.assertEqual(self.told(pascal_net, base, dimensions, width), wanted)

    def test_no_loss_at_any_width(self):
        for base in BASES:
            for width in range(1, 13):
                for dimensions in (1, min(base, 6)):
                    if width < 9 or dimensions < 6:
                        self.assertEqual(loss(pascal_net(base, dimensions, width)), 0)

    def test_wrong_arguments(self):
        for base in BASES:
            wrong = given(InvalidNumber, never_numbers(1, min(base, 6)))
            self.check_wrong(pascal_net, (base, 1, 2), WRONG_BASES, wrong, WRONG_NUMBERS)
        self.refused(InvalidNumber, 7, pascal_net, 7, 7, 2)
        self.refused(InvalidNumber, 3, pascal_net, 2, 3, 13)
        self.refused(InvalidNumber, 13, pascal_net, 2, 2, 13)


class Narrowed(Calls):
    def test_first_columns(self):
        for net in ALL_SMALL:
            for width in range(1, sizes_of(net)[2] + 1):
                wanted = (net[0], tuple(tuple(row[:width] for row in table) for table in net[1]))
                self.assertEqual(self.told(narrowed, net, width), wanted)
                self.assertEqual(sizes_of(wanted), (*sizes_of(net)[:2], width))

    def test_wrong_arguments(self):
        for net in (made_net("wrong", 3, 2, 12, 5), made_net("wrong", 2, 1, 1, 12), made_net("wrong", 7, 6, 2, 1)):
            width = sizes_of(net)[2]
            self.check_wrong(narrowed, (net, width), WRONG_NETS, given(InvalidNumber, never_numbers(1, width)))


class Turned(Calls):
    def test_tables(self):
        for net in ALL_SMALL:
            dimensions, depth, width = sizes_of(net)
            if dimensions == 6:
                self.told_number(TooMany, "given", 7, with_turned, net)
                continue
            new = self.told(with_turned, net)
            self.assertTrue(is_net(new))
            table = tuple(tuple(int(j <= width and at == width - j) for at in range(width)) for j in range(1, depth + 1))
            self.assertEqual(new, (net[0], net[1] + (table,)))

    def test_deeper_and_wider_nets(self):
        for base in BASES:
            for depth, width in ((12, 1), (1, 12), (12, 12), (12, 5), (5, 12)):
                new = self.told(with_turned, made_net("deep", base, 5, depth, width))
                rows = new[1][5]
                self.assertEqual(len(new[1]), 6)
                for place, row in enumerate(rows, 1):
                    self.assertEqual(row, tuple(int(at + place == width) for at in range(width)))
            self.told_number(TooMany, "given", 7, with_turned, made_net("deep", base, 6, 12, 12))

    def test_no_more_loss_than_the_narrowed_ones_have(self):
        nets = [net for net in ALL_SMALL if sizes_of(net)[0] < 6]
        nets += [pascal_net(base, min(base, 5), 8) for base in BASES]
        for base in BASES:
            for polynomials in some_polynomials(base):
                if len(polynomials) < 4:
                    nets.append(sequence_net(base, polynomials, 6, 6))
        for net in nets:
            most = max(loss(narrowed(net, width)) for width in range(1, sizes_of(net)[2] + 1))
            self.assertLessEqual(loss(with_turned(net)), most)

    def test_wrong_arguments(self):
        self.check_wrong(with_turned, (ALL_SMALL[0],), WRONG_NETS)


if __name__ == "__main__":
    unittest.main()
