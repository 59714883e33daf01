"""Points 2 and 34, and evennets/certificates.py: claims and papers, all of which the checker accepts."""

import unittest
from fractions import Fraction

from evennets.bounds import barred_by, grown_net
from evennets.certificates import (
    certify_depths, certify_error, certify_inside, certify_size, certify_streams, certify_strength, certify_windows,
    certify_word)
from evennets.checker import accepts
from evennets.errors import (
    InvalidBase, InvalidDepths, InvalidGenerator, InvalidNet, InvalidNumber, InvalidStart, InvalidWeights, InvalidWord,
    TooMany, UnlikeNets)
from evennets.evens import is_even, strength
from evennets.sequences import pascal_net
from tests.checks import Calls, given, indexed
from tests.machines import (
    CALM, GOLD, answers, made_generator, small_generators, states_of, windows_of, wrong_generators, wrong_states)
from tests.samples import (
    BASES, any_values, made_net, made_rows, never_bases, never_fractions_from_nought, never_numbers, table_of, wrong_nets)
from tests.searches import (
    all_depths, all_words, points_by_starts, poor_net, searched_dual, sizes_of, small_nets, unit_table)

UNIT, TURNED = ((1, 0), (0, 1)), ((0, 1), (1, 0))
BITS, FLAT = (2, (UNIT, TURNED)), (2, (UNIT, UNIT))
SMALL = [net for base in BASES for net in small_nets(base)][::3]
WRONG_NETS, WRONG_BASES = given(InvalidNet, wrong_nets() + any_values()), given(InvalidBase, never_bases())
WRONG_GENERATORS, WRONG_STATES = given(InvalidGenerator, wrong_generators()), given(InvalidStart, wrong_states(2))
WRONG_NUMBERS = given(InvalidNumber, never_numbers(1, 12))
ONE, HALF = (1, 1), (1, 2)
# By base the greatest width of a net with up to 4096 starts.
GREATEST = {2: 12, 3: 7, 5: 5, 7: 4}


class Certified(Calls):
    def check(self, wanted, function, *arguments, ways=True):
        """The function tells the wanted kind of claim, on the very arguments, and a paper that is accepted."""
        found = self.told(function, *arguments) if ways else function(*arguments)
        self.assertEqual([type(found), len(found)], [tuple, 2])
        claim, paper = found
        self.assertIs(type(claim), tuple)
        self.assertEqual(claim[0], wanted)
        for part, argument in zip(claim[1:], arguments):
            self.assertIs(part, argument)
        self.assertIs(accepts(claim, paper), True)
        if wanted != "error square":
            self.assertEqual(len(claim), len(arguments) + 1)
        return claim, paper


class Nets(Certified):
    def test_depths(self):
        for net in SMALL:
            for number, depths in enumerate(all_depths(net)):
                even = is_even(net, depths)
                _, paper = self.check(
                    "even" if even else "uneven", certify_depths, net, depths, ways=number % 7 == 0)
                self.assertIs(paper == (), even)

    def test_strengths(self):
        for net in SMALL:
            dimensions, depth, width = sizes_of(net)
            for number in range(min(width, dimensions * depth) + 1):
                strong = strength(net) >= number
                _, paper = self.check("strength" if strong else "weakness", certify_strength, net, number)
                self.assertIs(paper == (), strong)

    def test_words(self):
        for net in SMALL:
            dual, points = searched_dual(net), dict(points_by_starts(net))
            for number, word in enumerate(all_words(net)[::5] + dual[:3]):
                is_dual = word in dual
                _, paper = self.check("dual" if is_dual else "no dual", certify_word, net, word, ways=number % 40 == 0)
                if is_dual:
                    self.assertEqual(paper, ())
                else:
                    self.assertIn(paper, points)

    def test_insides(self):
        for base, sizes in ((2, (2, 2)), (3, (1, 2)), (2, (1, 4)), (5, (2, 1)), (7, (1, 1))):
            nets = [kind("inside", base, *sizes, width) for width in (1, 2, 3) for kind in (made_net, poor_net)]
            nets += [(base, (table_of(sizes[1], 2, 0),) * sizes[0]), (base, (unit_table(sizes[1], 2),) * sizes[0])]
            for net in nets:
                for other in nets:
                    points = [{point for _, point in points_by_starts(one)} for one in (net, other)]
                    inside = points[0] <= points[1]
                    _, paper = self.check("inside" if inside else "outside", certify_inside, net, other)
                    self.assertIs(paper == (), inside)

    def test_large_nets(self):
        for base in BASES:
            net, other = made_net("large", base, 6, 12, 12), poor_net("large", base, 6, 12, 12)
            for depths in ((12,) * 6, (0,) * 6, (1, 0, 0, 0, 0, 0), (2,) * 6, (3, 0, 3, 0, 3, 0)):
                for one in (net, other):
                    self.check("even" if is_even(one, depths) else "uneven", certify_depths, one, depths)
            if base in (2, 7):
                wanted = "strength" if strength(net) == 12 else "weakness"
                self.check(wanted, certify_strength, net, 12, ways=False)
            self.check("inside", certify_inside, net, net)
            self.check("outside", certify_inside, net, other)
            self.check("no dual", certify_word, net, (((1,) + (0,) * 11),) * 6)
            self.check("dual", certify_word, net, ((0,) * 12,) * 6)
        self.check("strength", certify_strength, pascal_net(2, 2, 12), 12)

    def test_free_rows(self):
        # All words but nought are none of the dual, and there is no weakness.
        net = (3, (unit_table(2, 4), unit_table(2, 4, 2)))
        self.check("strength", certify_strength, net, 4)
        self.check("inside", certify_inside, (3, (table_of(2, 1),) * 2), net)

    def test_wrong_arguments(self):
        words = any_values() + [((1, 0),), ((1, 0), (2, 0)), ((1, 0), (0, True)), [(1, 0), (0, 1)], ((1, 0), (0, 1, 0))]
        depths = any_values() + [(1,), (1, 1, 1), (3, 0), (0, -1), (True, 1), [1, 1], (1, None)]
        self.check_wrong(certify_depths, (BITS, (1, 1)), WRONG_NETS, given(InvalidDepths, depths))
        self.check_wrong(certify_word, (BITS, ((1, 0), (0, 1))), WRONG_NETS, given(InvalidWord, words))
        self.check_wrong(certify_inside, (BITS, FLAT), WRONG_NETS, WRONG_NETS)
        for net in (BITS, (2, (unit_table(12, 3),)), (3, (unit_table(2, 12),)), made_net("x", 7, 6, 12, 12)):
            dimensions, depth, width = sizes_of(net)
            wrong = given(InvalidNumber, never_numbers(0, min(width, dimensions * depth)))
            self.check_wrong(certify_strength, (net, 0), WRONG_NETS[:20], wrong)
        self.check_wrong(certify_strength, (BITS, 0), WRONG_NETS, given(InvalidNumber, never_numbers(0, 2)))

    def test_unlike_nets(self):
        for other in ((3, (UNIT, TURNED)), (2, (UNIT,)), (2, (((1, 0),),) * 2), (2, (unit_table(3, 2),) * 2)):
            self.told_nothing(UnlikeNets, certify_inside, BITS, other)
            self.told_nothing(UnlikeNets, certify_inside, other, BITS)


class Sizes(Certified):
    def test_all_small_sizes(self):
        kinds = set()
        for base in BASES:
            for width in range(1, min(GREATEST[base], 7) + 1):
                for dimensions in (1, 2, 3, 6):
                    for size in (1, 2, 3, 4, 5, 12):
                        arguments = (base, width, dimensions, size)
                        reason, net = barred_by(*arguments), grown_net(*arguments)
                        if reason is None and net is None:
                            self.assertIsNone(self.told(certify_size, *arguments))
                            kinds.add(None)
                        else:
                            wanted = "found" if reason is None else "barred"
                            _, paper = self.check(wanted, certify_size, *arguments)
                            self.assertEqual(paper, net if reason is None else reason)
                            kinds.add((wanted, reason))
        self.assertEqual(kinds, {None, ("found", None), ("barred", "width"), ("barred", "lines"), ("barred", "ball")})

    def test_too_many_rows_ahead_of_both(self):
        for base in (3, 5, 7):
            for width in (GREATEST[base] + 1, 12):
                for dimensions, size in ((1, 1), (6, 12), (2, 2)):
                    self.told_number(TooMany, "given", base ** width, certify_size, base, width, dimensions, size)
        self.assertEqual(barred_by(3, 8, 1, 9), "width")
        self.told_number(TooMany, "given", 3 ** 8, certify_size, 3, 8, 1, 9)
        self.check("found", certify_size, 2, 12, 2, 12)
        self.check("barred", certify_size, 2, 12, 6, 12)

    def test_wrong_arguments(self):
        self.check_wrong(
            certify_size, (3, 2, 2, 2), WRONG_BASES, WRONG_NUMBERS, given(InvalidNumber, never_numbers(1, 6)),
            WRONG_NUMBERS)
        self.refused(InvalidNumber, 13, certify_size, 7, 12, 6, 13)


class Errors(Certified):
    def test_squares(self):
        for net in SMALL:
            many = len(net[1])
            for gammas in ((ONE,) * many, (HALF, ONE, (7, 3))[:many] + ((0, 1),) * (many - 3)):
                claim, paper = self.check("error square", certify_error, net, gammas)
                self.assertEqual(paper, ())
                self.assertEqual(len(claim), 4)
                wanted = Fraction(0)
                for word in searched_dual(net):
                    part = Fraction(1)
                    for gamma, figures in zip(gammas, word):
                        end = max((at for at, figure in enumerate(figures, 1) if figure), default=0)
                        part *= Fraction(*gamma) / net[0] ** (2 * end) if end else 1
                    wanted += part
                self.assertEqual(Fraction(*claim[3]), wanted - 1)

    def test_large_nets_and_fractions(self):
        gammas = tuple((10 ** 399 + at, 10 ** 398 + 1) for at in range(6))
        gammas = tuple((Fraction(*one).numerator, Fraction(*one).denominator) for one in gammas)
        self.check("error square", certify_error, made_net("error", 2, 6, 12, 12), gammas)

    def test_starts(self):
        for base in BASES:
            self.check("error square", certify_error, (base, (unit_table(2, GREATEST[base]),)), (ONE,))
            if base > 2:
                width = GREATEST[base] + 1
                self.told_number(TooMany, "given", base ** width, certify_error, (base, (unit_table(2, width),)), (ONE,))

    def test_wrong_arguments(self):
        wrong = [((ONE, value), 1) for value in never_fractions_from_nought()] + [(None, None), ((ONE,), None), ((), None)]
        self.check_wrong(certify_error, (BITS, (ONE, HALF)), WRONG_NETS, indexed(InvalidWeights, *wrong))


class Generators(Certified):
    def test_windows(self):
        for base in BASES:
            for generator in small_generators(base):
                for windows in (1, 2, 3, 5):
                    for figures in range(1, len(generator[2]) + 1):
                        rows = windows_of(generator, windows, figures)
                        free = len(set(rows)) == base ** (windows * figures)
                        _, paper = self.check(
                            "free windows" if free else "tied windows", certify_windows, generator, windows, figures)
                        self.assertIs(paper == (), free)

    def test_great_windows(self):
        for base in BASES:
            generator = made_generator("certify", base, 12, 12)
            for windows, figures in ((24, 12), (24, 1), (13, 1), (2, 7)):
                self.check("tied windows", certify_windows, generator, windows, figures)
            self.check("free windows", certify_windows, (base, unit_table(12, 12), unit_table(12, 12)), 1, 12)

    def test_streams(self):
        for base in BASES:
            some = small_generators(base)[::4]
            for generator in some:
                for other in some:
                    if len(generator[2]) == len(other[2]):
                        self.check_streams(generator, other)

    def check_streams(self, generator, other):
        size = len(generator[1]) + len(other[1])
        for start in states_of(generator)[::7]:
            for begin in states_of(other)[::7]:
                told = [answers(generator, start, size), answers(other, begin, size)]
                same = told[0] == told[1]
                _, paper = self.check(
                    "one stream" if same else "two streams", certify_streams, generator, start, other, begin, ways=False)
                if same:
                    self.assertEqual(paper, ())
                else:
                    self.assertIs(type(paper), int)
                    self.assertNotEqual(told[0][paper], told[1][paper])

    def test_streams_in_all_ways(self):
        self.check("one stream", certify_streams, GOLD, (0, 0), CALM, (0, 1))
        self.check("two streams", certify_streams, GOLD, (1, 1), GOLD, (1, 0))
        for base in BASES:
            generator, start = made_generator("large", base, 12, 12), made_rows("large", base, 1, 12)[0]
            self.check("one stream", certify_streams, generator, start, generator, start)
            self.check("two streams", certify_streams, generator, start, generator, (0,) * 12)

    def test_wrong_arguments(self):
        generator = (2, GOLD[1], unit_table(3, 2))
        self.check_wrong(
            certify_windows, (generator, 2, 1), WRONG_GENERATORS, given(InvalidNumber, never_numbers(1, 24)),
            given(InvalidNumber, never_numbers(1, 3)))
        self.check_wrong(
            certify_streams, (GOLD, (1, 0), CALM, (0, 1)), WRONG_GENERATORS, WRONG_STATES, WRONG_GENERATORS, WRONG_STATES)

    def test_unlike_generators(self):
        for other in ((3, GOLD[1], GOLD[2]), (2, GOLD[1], unit_table(2, 2))):
            self.told_nothing(UnlikeNets, certify_streams, GOLD, (1, 0), other, (1, 0))
            self.told_nothing(UnlikeNets, certify_streams, other, (1, 0), GOLD, (1, 0))


if __name__ == "__main__":
    unittest.main()
