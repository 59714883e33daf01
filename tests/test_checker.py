"""Points 2 and 34, and evennets/checker.py: each kind of claim with right papers and wrong ones."""

import itertools
import unittest

from evennets.bounds import barred_by, grown_net
from evennets.checker import accepts
from evennets.duals import dual_base, least_word
from evennets.evens import empty_box, strength
from evennets.generators import parity_of
from evennets.sequences import pascal_net, tight_powers
from evennets.waves import error_square
from tests.machines import CALM, GOLD, answers, is_tie, made_generator, shifting, small_generators, states_of
from tests.polynomials import are_tight, made_apart
from tests.samples import BASES, all_rows, any_values, made_net, never_numbers, put, table_of, wrong_nets
from tests.searches import (
    all_boxes, all_depths, all_words, begun, is_within, points_by_starts, poor_net, searched_dual, searched_shape,
    sizes_of, small_nets, unit_table, weighed)

UNIT, TURNED = ((1, 0), (0, 1)), ((0, 1), (1, 0))
BITS, FLAT = (2, (UNIT, TURNED)), (2, (UNIT, UNIT))
ONE, HALF, NIL = (1, 1), (1, 2), (0, 1)
RING, ZERO = (2, ((0, 1), (1, 0)), ((1, 0), (0, 0))), (2, ((0, 0), (0, 0)), ((1, 0), (0, 1)))

# A claim of each kind, beside a paper for it.
RIGHT = (
    (("even", BITS, (1, 1)), ()), (("uneven", FLAT, (1, 1)), (((1, 0), (1, 0)), ((0,), (1,)))),
    (("strength", BITS, 2), ()), (("weakness", FLAT, 2), ((1, 0), (1, 0))), (("dual", BITS, ((1, 0), (0, 1))), ()),
    (("no dual", FLAT, ((1, 0), (0, 1))), (1, 0)), (("inside", FLAT, FLAT), ()),
    (("outside", BITS, FLAT), ((1, 0), (1, 0))), (("found", 2, 2, 3, 2), grown_net(2, 2, 3, 2)),
    (("barred", 2, 2, 4, 2), "lines"), (("error square", BITS, (ONE, ONE), (9, 256)), ()),
    (("tight", 2, ((1, 1, 1), (0, 1)), (1, 3)), ()), (("free windows", GOLD, 2, 1), ()),
    (("tied windows", GOLD, 3, 1), ((1,), (1,), (1,))), (("one stream", GOLD, (1, 0), GOLD, (1, 0)), ()),
    (("two streams", GOLD, (1, 1), GOLD, (1, 0)), 1))
# The kinds whose papers are () alone.
PLAIN = ("even", "strength", "dual", "inside", "error square", "tight", "free windows", "one stream")


def few(values, most):
    """At most about so many of the values, spread over all of them."""
    values = list(values)
    return values[::1 + len(values) // most]


class Checks(unittest.TestCase):
    def told(self, claim, paper):
        """What the checker tells, of both by position and by name, changing neither."""
        before = repr((claim, paper))
        first = accepts(claim, paper)
        self.assertIs(type(first), bool)
        self.assertIs(accepts(claim=claim, paper=paper), first)
        self.assertIs(accepts(paper=paper, claim=claim), first)
        self.assertEqual(repr((claim, paper)), before)
        return first

    def check(self, wanted, claim, *papers):
        for paper in papers:
            self.assertIs(self.told(claim, paper), wanted, (claim, paper))

    def check_plain(self, wanted, claim):
        """A claim without a paper: () is accepted if it is so, and no other value."""
        self.check(wanted, claim, ())
        self.check(False, claim, None, [], "", 0, False, ((),), {}, "width", ((1, 0), (1, 0)), True)


class Depths(Checks):
    nets = [net for base in BASES for net in small_nets(base) if base ** sum(sizes_of(net)[:2]) < 200][::3]

    def test_even_and_uneven(self):
        for net in self.nets:
            points = [point for _, point in points_by_starts(net)]
            for depths in few(all_depths(net), 12):
                counts = {box: 0 for box in all_boxes(net, depths)}
                for point in points:
                    counts[begun(point, depths)] += 1
                wanted = len(set(counts.values())) == 1
                self.check_plain(wanted, ("even", net, depths))
                paper = empty_box(net, depths)
                self.assertIs(paper is None, wanted)
                self.check(not wanted, ("uneven", net, depths), paper)

    def test_all_papers(self):
        for net in (BITS, FLAT, (3, (((1,), (2,)), ((2,), (0,)))), (5, (((1, 0), (2, 0)),)), (2, (table_of(2, 1, 0),))):
            dual = searched_dual(net)
            for depths in all_depths(net):
                for word in all_words(net):
                    for box in few(all_boxes(net, depths), 30):
                        padded = tuple(one + (0,) * (sizes_of(net)[1] - len(one)) for one in box)
                        wanted = word in dual and any(map(any, word)) and is_within(searched_shape(word), depths)
                        wanted = wanted and weighed(net[0], word, padded) != 0
                        self.assertIs(accepts(("uneven", net, depths), (word, box)), wanted)

    def test_papers_of_other_forms(self):
        claim, word, box = ("uneven", FLAT, (1, 1)), ((1, 0), (1, 0)), ((0,), (1,))
        self.check(True, claim, (word, box))
        self.check(
            False, claim, (word,), (word, box, ()), [word, box], (box, word), word, box, (word, ((0,), (1, 0))), (word, ((0,),)),
            (word, ((0,), [1])), (word, [(0,), (1,)]), (word, ((0,), (2,))), (word, ((0,), (True,))), (word, ((1,), (1,))),
            (((1,), (1,)), box), (((1, 0), (1, 0), (0, 0)), box), (((1, 0), [1, 0]), box), (((1, 0), (0, 0)), box),
            (((0, 0), (0, 0)), box), (((0, 1), (0, 1)), box), (((1, 1), (1, 1)), box), (((1, 0), (1, 2)), box), (None, box),
            (word, None), (word, ()), ((), box), (word, word), (((3, 0), (1, 0)), box), {word: box})

    def test_wrong_depths(self):
        for depths in any_values() + [(1,), (1, 1, 1), (3, 0), (0, -1), (True, 1), [1, 1], (1, "1")]:
            self.check(False, ("even", BITS, depths), ())
            self.check(False, ("uneven", FLAT, depths), (((1, 0), (1, 0)), ((0,), (1,))))


class Strengths(Checks):
    def test_all_numbers_and_words(self):
        for net in few(Depths.nets, 18):
            found, dual = strength(net), searched_dual(net)
            dimensions, depth, width = sizes_of(net)
            most = min(width, dimensions * depth)
            for number in range(-1, most + 3):
                self.check_plain(0 <= number <= found, ("strength", net, number))
                for word in few(all_words(net), 150) + dual[:5]:
                    light = word in dual and 0 < sum(searched_shape(word)) <= number
                    wanted = light and number <= most
                    self.assertIs(accepts(("weakness", net, number), word), wanted)
                    if wanted:
                        self.assertLess(found, number)
                some = least_word(net)
                self.check(found < number <= most, ("weakness", net, number), some)

    def test_numbers_just_beyond_with_a_paper_that_would_do(self):
        for net in (FLAT, (3, (((1, 0), (2, 0)),)), (2, (table_of(12, 12, 0),) * 6), (7, (table_of(2, 12, 0),) * 3)):
            dimensions, depth, width = sizes_of(net)
            most, word = min(width, dimensions * depth), least_word(net)
            self.check(True, ("weakness", net, most), word)
            self.check(False, ("weakness", net, most + 1), word)
            self.check(False, ("weakness", net, 0), word)
            self.check_plain(True, ("strength", net, 0))
            for number in (-1, True, False, None, "1", (1,), [1], 10 ** 399, most + 1):
                self.check(False, ("weakness", net, number), word)
                self.check(False, ("strength", net, number), ())
        self.check_plain(True, ("strength", BITS, 2))
        self.check(False, ("strength", BITS, 3), ())
        net = (2, (unit_table(2, 5),))
        self.check_plain(True, ("strength", net, 2))
        self.check(False, ("strength", net, 3), ())

    def test_words_of_other_forms(self):
        self.check(
            False, ("weakness", FLAT, 2), [(1, 0), (1, 0)], ((1, 0), [1, 0]), ((1, 0),), ((1, 0), (1, 0), (0, 0)), ((1,), (1,)),
            ((0, 0), (0, 0)), ((1, 0), (True, 0)), ((1, 0), (3, 0)), ((-1, 0), (1, 0)), ((1, 0), (0, 0)), (1, 0, 1, 0),
            ((0, 1), (0, 1)), (((1, 0), (1, 0)),), (1, 1), "", 2)

    def test_large_nets(self):
        for base in (2, 7):
            self.assertIs(accepts(("strength", pascal_net(base, min(base, 4), 12), 12), ()), True)
            net = made_net("checker", base, 6, 12, 12)
            found = strength(net)
            self.assertIs(accepts(("strength", net, found), ()), True)
            self.assertIs(accepts(("strength", net, found + 1), ()), False)
            self.check(True, ("weakness", net, found + 1), least_word(net))
            self.check(False, ("weakness", net, found), least_word(net))


class Words(Checks):
    def test_all_words_and_starts(self):
        for net in few(Depths.nets, 18):
            dual, points = searched_dual(net), points_by_starts(net)
            for word in few(all_words(net), 60) + dual[:4]:
                self.check_plain(word in dual, ("dual", net, word))
                for start, point in points:
                    wanted = weighed(net[0], word, point) != 0
                    self.assertIs(accepts(("no dual", net, word), start), wanted)

    def test_starts_of_other_forms(self):
        self.check(True, ("no dual", FLAT, ((1, 0), (0, 1))), (1, 0), (0, 1))
        self.check(
            False, ("no dual", FLAT, ((1, 0), (0, 1))), (0, 0), (1, 1), [1, 0], (1,), (1, 0, 0), (True, 0), (3, 0), (1, -1), "10",
            ((1, 0),), (), None, 1, ((1, 0), (0, 1)))

    def test_wrong_words(self):
        for word in any_values() + [
                ((1, 0),), ((1, 0), (0, 2)), ((True, 0), (0, 1)), [(1, 0), (0, 1)], ((1, 0), [0, 1]), ((1, 0), (0, 1), (0, 0)),
                ((1, 0), (0, 1, 0)), ((0,), (0,)), ((0, 0), (-1, 1))]:
            self.check(False, ("dual", (2, (table_of(2, 2, 0),) * 2), word), ())
            self.check(False, ("no dual", FLAT, word), (1, 0), (0, 1))


class Insides(Checks):
    def test_pairs_of_nets(self):
        for base, sizes in ((2, (2, 2)), (3, (1, 2)), (2, (1, 4)), (5, (1, 1))):
            nets = [
                kind("inside", base, *sizes, width) for width in (1, 2, 3) for kind in (made_net, poor_net)]
            nets += [(base, (table_of(sizes[1], 2, 0),) * sizes[0]), (base, (unit_table(sizes[1], 2),) * sizes[0])]
            for net, other in itertools.product(nets, repeat=2):
                points = [{point for _, point in points_by_starts(one)} for one in (net, other)]
                inside = points[0] <= points[1]
                self.check_plain(inside, ("inside", net, other))
                dual = [searched_dual(one) for one in (net, other)]
                papers = [word for word in all_words(net) if accepts(("outside", net, other), word)]
                self.assertEqual(papers, [word for word in dual[1] if word not in dual[0]])
                self.assertIs(papers == [], inside)

    def test_unlike_nets(self):
        for other in (
                (3, (UNIT, TURNED)), (2, (UNIT,)), (2, (UNIT,) * 3), (2, (((1, 0),),) * 2), (2, (unit_table(3, 2),) * 2)):
            for pair in ((BITS, other), (other, BITS)):
                self.check(False, ("inside", *pair), ())
                for word in dual_base(pair[1]) + dual_base(pair[0]):
                    self.check(False, ("outside", *pair), word)
        # Their widths may be unlike.
        self.check_plain(True, ("inside", (2, (((0, 0, 0),) * 2,) * 2), BITS))

    def test_papers_of_other_forms(self):
        self.check(True, ("outside", BITS, FLAT), ((1, 0), (1, 0)))
        self.check(
            False, ("outside", BITS, FLAT), ((1, 0), (0, 1)), [(1, 0), (1, 0)], ((1, 0), [1, 0]), ((1, 0), (1, 0), (0, 0)),
            ((1, 0),), ((True, 0), (1, 0)), ((3, 0), (1, 0)), ((0, 0), (0, 0)), (1, 0), ())


class Sizes(Checks):
    def test_found(self):
        for base, width, dimensions, size in itertools.product(BASES, (1, 2, 3), (1, 2, 3), (1, 2, 3)):
            claim = ("found", base, width, dimensions, size)
            net = grown_net(base, width, dimensions, size)
            if net is not None:
                self.check(True, claim, net)
                for other in (
                        ("found", base, width + 1, dimensions, size), ("found", base, width, dimensions + 1, size),
                        ("found", base, width, dimensions, size + 1), ("found", 5 if base != 5 else 7, width, dimensions, size)):
                    self.check(False, other, net)
            for kind in (made_net, poor_net):
                net = kind("found", base, dimensions, size, width)
                self.check(strength(net) >= size, claim, net)
            self.check(False, claim, (base, (table_of(size, width, 0),) * dimensions))

    def test_nets_of_other_sizes(self):
        net = pascal_net(2, 2, 4)
        self.check(True, ("found", 2, 4, 2, 4), net)
        for claim in (
                ("found", 2, 4, 2, 3), ("found", 2, 4, 2, 5), ("found", 2, 3, 2, 4), ("found", 2, 5, 2, 4), ("found", 2, 4, 1, 4),
                ("found", 2, 4, 3, 4), ("found", 3, 4, 2, 4), ("found", 2, 4, 2, 1)):
            self.check(False, claim, net)

    def test_bounds(self):
        for base in BASES:
            for dimensions in (1, min(base, 6)):
                self.check(True, ("found", base, 12, dimensions, 12), pascal_net(base, dimensions, 12))
            self.check(True, ("found", base, 12, 6, 1), (base, (unit_table(1, 12),) * 6))
            for sizes in ((13, 1, 1), (1, 7, 1), (1, 1, 13), (0, 1, 1), (1, 0, 1), (1, 1, 0)):
                width, dimensions, size = sizes
                net = (base, (table_of(size, width),) * dimensions)
                self.check(False, ("found", base, *sizes), net, (), "width", "lines", "ball")
                self.check(False, ("barred", base, *sizes), net, (), "width", "lines", "ball", None)

    def test_papers_that_are_no_nets(self):
        claim, net = ("found", 2, 2, 3, 2), grown_net(2, 2, 3, 2)
        self.check(True, claim, net)
        for paper in wrong_nets() + [list(net), (2, list(net[1])), net[1], net + ((),), (3, net[1])]:
            self.check(False, claim, paper)

    def test_barred(self):
        found = set()
        for base in BASES:
            for width, dimensions, size in itertools.product((1, 2, 3, 5, 12), range(1, 7), (1, 2, 3, 4, 12)):
                claim, reason = ("barred", base, width, dimensions, size), barred_by(base, width, dimensions, size)
                for text in ("width", "lines", "ball"):
                    self.check(text == reason, claim, text)
                    found.add((text, text == reason))
                self.check(False, claim, None, (), "", "Width", "width ", b"width", ("width",), ["lines"], 1)
        self.assertEqual(len(found), 6)

    def test_barred_just_beyond_the_bounds(self):
        self.check(True, ("barred", 2, 11, 1, 12), "width")
        self.check(False, ("barred", 2, 11, 1, 13), "width")
        self.check(False, ("barred", 2, 0, 1, 1), "width")
        self.check(True, ("barred", 2, 2, 6, 2), "lines")
        self.check(False, ("barred", 2, 2, 7, 2), "lines")
        self.check(False, ("barred", 2, 2, 6, True), "lines")
        self.check(False, ("barred", True, 2, 6, 2), "lines")
        self.check(False, ("barred", 4, 2, 6, 2), "lines")


class Errors(Checks):
    def test_squares(self):
        for net in few(Depths.nets, 12):
            for gammas in ((ONE,) * len(net[1]), (HALF,) * len(net[1]), (NIL,) * len(net[1])):
                above, below = error_square(net, gammas)
                self.check_plain(True, ("error square", net, gammas, (above, below)))
                for fraction in ((above + below, below), (-above - below, below), (above, below + 7 * below + 1), NIL):
                    self.check_plain(fraction == (above, below), ("error square", net, gammas, fraction))

    def test_fractions_of_other_forms(self):
        claim = ("error square", BITS, (ONE, ONE))
        for fraction in (
                (18, 512), [9, 256], (9, 256, 1), (-9, -256), ("9", 256), (9,), 9, None, (9, 0), ((9, 256),), (True, 1),
                (9, 257), (8, 256)):
            self.check(False, claim + (fraction,), ())
        self.check(True, ("error square", BITS, (NIL, NIL), NIL), ())
        self.check(False, ("error square", BITS, (NIL, NIL), (0, 2)), ())
        self.check(False, ("error square", BITS, (NIL, NIL), (False, 1)), ())
        for gammas in ((ONE,), (ONE, ONE, ONE), [ONE, ONE], (ONE, (-1, 1)), (ONE, (2, 2)), (ONE, None), None, (ONE, (0, 2))):
            self.check(False, ("error square", BITS, gammas, (9, 256)), ())
            self.check(False, ("error square", BITS, gammas, NIL), ())

    def test_up_to_4096_starts(self):
        for base, width in ((2, 12), (3, 7), (5, 5), (7, 4)):
            net = (base, (unit_table(1, width), unit_table(1, width, 1)))
            self.check_plain(True, ("error square", net, (ONE, ONE), NIL))
            if base > 2:
                net = (base, (unit_table(1, width + 1), unit_table(1, width + 1, 1)))
                self.check_plain(False, ("error square", net, (ONE, ONE), NIL))


class Tight(Checks):
    def test_powers(self):
        found = set()
        for base in BASES:
            for number, degrees in enumerate(((1,), (2,), (1, 1), (2, 1), (2, 2), (3, 2), (1, 2, 3), (2, 2, 3))):
                polynomials = made_apart((number, "tight"), base, degrees)
                right = tight_powers(base, polynomials)
                self.check_plain(True, ("tight", base, polynomials, right))
                for powers in itertools.islice(itertools.product((1, 2, 3, 4, 6, 8), repeat=len(polynomials)), 60):
                    wanted = are_tight(base, polynomials, powers)
                    self.assertIs(self.told(("tight", base, polynomials, powers), ()), wanted)
                    found.add(wanted)
                great = tuple(one * 10 ** (399 - len(str(one))) for one in right)
                self.assertIs(self.told(("tight", base, polynomials, great), ()), True)
                one_more = tuple(one + 1 for one in great)
                wanted = are_tight(base, polynomials, one_more)
                self.assertIs(self.told(("tight", base, polynomials, one_more), ()), wanted)
        self.assertEqual(found, {True, False})

    def test_a_sum_from_2_on(self):
        for base in BASES:
            self.check_plain(False, ("tight", base, ((1, 1),), (1,)))
            self.check_plain(True, ("tight", base, ((1, 1),), (2,)))
            self.check_plain(True, ("tight", base, ((1, 1, 1),), (1,)))
            self.check_plain(True, ("tight", base, ((1, 1), (0, 1)), (1, 1)))

    def test_powers_of_other_forms(self):
        polynomials = ((1, 1, 1), (0, 1))
        self.check(True, ("tight", 2, polynomials, (1, 3)), ())
        for powers in (
                (1,), (1, 3, 3), [1, 3], (0, 3), (1, 0), (-1, 3), (1, -3), (True, 3), (1, "3"), (1, None), (1, (3,)), None, 3, ()):
            self.check(False, ("tight", 2, polynomials, powers), ())

    def test_polynomials_of_other_forms(self):
        six = made_apart("six", 5, (1, 1, 1, 1, 2, 2))
        self.assertEqual(len(six), 6)
        powers = tight_powers(5, six)
        self.check(True, ("tight", 5, six, powers), ())
        self.check(False, ("tight", 5, six + ((0, 0, 1, 1),), powers + (1,)), ())
        self.check(False, ("tight", 5, (), ()), ())
        self.check(True, ("tight", 2, ((1,) * 7,), (1,)), ())
        for polynomials in (
                ((1,) * 8,), ((1,),), ((1, 0),), ((1, 2),), ([1, 1],), [(1, 1)], ((True, 1),), ((1, True),), (None,), ((),), (1, 1)):
            self.check(False, ("tight", 2, polynomials, (2,)), ())
        for polynomials in (((0, 1), (0, 0, 1)), ((1, 1), (1, 1)), ((1, 1), (1, 0, 1))):
            self.check(False, ("tight", 2, polynomials, (6, 6)), ())


class Windows(Checks):
    def test_all_ties(self):
        for base in BASES:
            for generator in few(small_generators(base), 12):
                for windows, figures in itertools.product((1, 2, 3, 4), (1, 2)):
                    if figures <= len(generator[2]) and base ** (windows * figures) < 200:
                        self.check_ties(generator, windows, figures)

    def check_ties(self, generator, windows, figures):
        claim = ("tied windows", generator, windows, figures)
        papers = []
        for tie in itertools.product(list(all_rows(generator[0], figures)), repeat=windows):
            wanted = any(map(any, tie)) and is_tie(generator, tie, figures)
            self.assertIs(accepts(claim, tie), wanted)
            if wanted:
                papers.append(tie)
        self.check_plain(not papers, ("free windows", generator, windows, figures))
        found = parity_of(generator, windows, figures)
        self.check(bool(papers), claim, found)

    def test_numbers_at_the_bounds_and_beyond(self):
        for base in BASES:
            generator = made_generator("windows", base, 12, 12)
            for windows, figures in ((24, 12), (24, 1), (1, 12), (13, 1)):
                tie = parity_of(generator, windows, figures)
                self.check_plain(tie is None, ("free windows", generator, windows, figures))
                self.check(tie is not None, ("tied windows", generator, windows, figures), tie)
        calm = (2, ((1,),), ((1,), (1,)))
        for windows, figures, wanted in (
                (24, 2, True), (25, 2, False), (24, 3, False), (0, 2, False), (24, 0, False), (-1, 2, False), (25, 1, False)):
            tie = ((1,) + (1,) * (figures - 1),) + ((0,) * figures,) * (windows - 1)
            if figures == 1:
                tie = ((1,), (1,)) + ((0,),) * (windows - 2)
            self.check(wanted, ("tied windows", calm, windows, figures), tie)
            self.check(False, ("free windows", calm, windows, figures), ())
        self.check(True, ("free windows", calm, 1, 1), ())
        self.check(False, ("free windows", calm, True, 1), ())
        self.check(False, ("free windows", calm, 1, True), ())

    def test_ties_of_other_forms(self):
        claim = ("tied windows", GOLD, 3, 1)
        self.check(True, claim, ((1,), (1,), (1,)))
        self.check(
            False, claim, [(1,), (1,), (1,)], ((1,), (1,), [1]), ((1,), (1,)), ((1,), (1,), (1,), (0,)), ((0,), (0,), (0,)),
            ((1,), (1,), (3,)), ((1,), (1,), (True,)), ((1,), (1,), (-1,)), (1, 1, 1), ((1, 0), (1, 0), (1, 0)), ((1,), (1,), ()),
            ((1, 1, 1),), "111", ((1,), (0,), (1,)), None, ())


class Streams(Checks):
    def test_all_indexes(self):
        for base in BASES:
            some = few(small_generators(base), 9)
            for generator, other in itertools.product(some, repeat=2):
                if len(generator[2]) != len(other[2]):
                    self.check(False, ("one stream", generator, states_of(generator)[0], other, states_of(other)[0]), ())
                    continue
                size = len(generator[1]) + len(other[1])
                for start, begin in itertools.product(few(states_of(generator), 4), few(states_of(other), 4)):
                    told = [answers(one, at, size + 3) for one, at in ((generator, start), (other, begin))]
                    unlike = [at for at in range(size + 3) if told[0][at] != told[1][at]]
                    self.check_plain(not unlike, ("one stream", generator, start, other, begin))
                    papers = [at for at in range(-2, size + 3) if accepts(
                        ("two streams", generator, start, other, begin), at)]
                    self.assertEqual(papers, [at for at in unlike if at < size])
                    self.assertIs(bool(papers), bool(unlike))

    def test_indexes_just_beyond(self):
        # The answers are unlike at each index, 24 among them, and papers go up to 23.
        one, other = (2, unit_table(12, 12), unit_table(1, 12)), (2, unit_table(12, 12), unit_table(1, 12))
        claim = ("two streams", one, (1,) * 12, other, (0,) * 12)
        self.check(True, claim, 0, 23)
        self.check(False, claim, 24, 25, -1, 10 ** 399, True, False, None, "0", (0,), [0], ())
        self.check(True, ("two streams", shifting(2, 1), (1,), shifting(2, 1), (0,)), 0)
        self.check(False, ("two streams", shifting(2, 1), (1,), shifting(2, 1), (0,)), 1, False)

    def test_starts_and_generators_of_other_forms(self):
        self.check(True, ("one stream", GOLD, (1, 0), GOLD, (1, 0)), ())
        for start in any_values() + [(1,), (1, 0, 0), [1, 0], (2, 0), (True, 0), (1, None), ((1, 0),)]:
            self.check(False, ("one stream", GOLD, start, GOLD, (1, 0)), ())
            self.check(False, ("one stream", GOLD, (1, 0), GOLD, start), ())
            self.check(False, ("one stream", GOLD, start, GOLD, start), ())
            self.check(False, ("two streams", GOLD, start, GOLD, (1, 0)), 0, 1)
        self.check(False, ("one stream", GOLD, (0, 0), (3, *GOLD[1:]), (0, 0)), ())
        self.check(False, ("one stream", GOLD, (0, 0), RING, (0, 0)), ())
        self.check(False, ("two streams", GOLD, (1, 0), (3, *GOLD[1:]), (0, 0)), 0)
        self.check(False, ("two streams", GOLD, (1, 0), RING, (0, 0)), 0)
        self.check(True, ("one stream", RING, (0, 0), ZERO, (0, 0)), ())
        self.check(True, ("one stream", GOLD, (0, 0), CALM, (0, 1)), ())


class Forms(Checks):
    """Claims and papers of any form at all."""

    def test_right_ones(self):
        for claim, paper in RIGHT:
            self.check(True, claim, paper)
            if claim[0] in PLAIN:
                self.check_plain(True, claim)
        self.assertEqual(len({claim[0] for claim, _ in RIGHT}), 16)

    def test_parts_left_out_or_told_twice(self):
        for claim, paper in RIGHT:
            for at in range(len(claim)):
                self.check(False, claim[:at] + claim[at + 1:], paper)
                self.check(False, claim[:at] + claim[at:at + 1] + claim[at:], paper)
            for more in ((), None, paper, claim):
                self.check(False, claim + (more,), paper)
            self.check(False, claim[:1], paper)

    def test_lists(self):
        for claim, paper in RIGHT:
            self.check(False, list(claim), paper)
            self.check(False, (claim,), paper)
            self.check(False, claim, [paper], (paper,), (claim, paper), list(paper) if isinstance(paper, tuple) else None)
            for at, part in enumerate(claim):
                if isinstance(part, tuple):
                    self.check(False, put(claim, (at,), list(part)), paper)

    def test_texts_of_other_claims(self):
        texts = [claim[0] for claim, _ in RIGHT] + ["", "Even", "even ", "odd", "nodual", "no_dual", "error", "x" * 400]
        for claim, paper in RIGHT:
            for text in texts:
                if text != claim[0]:
                    self.check(False, (text, *claim[1:]), paper)

    def test_any_value_as_the_claim_its_text_or_the_paper(self):
        for value in any_values():
            for paper in [(), None, value, "width", 0] + [paper for _, paper in RIGHT]:
                self.check(False, value, paper)
            for claim, paper in RIGHT:
                self.check(False, put(claim, (0,), value), paper)
                self.check(False, (value, claim), paper)
                plain = claim[0] in PLAIN and type(value) is tuple and value == ()
                number = claim[0] == "two streams" and type(value) is int and value == 1
                self.check(plain or number, claim, value)

    def test_any_value_as_a_part(self):
        for claim, paper in RIGHT:
            for at in range(1, len(claim)):
                for value in any_values():
                    told = self.told(put(claim, (at,), value), paper)
                    if type(value) is not int:
                        self.assertIs(told, False, (claim, at, value))

    def test_any_number_as_a_part(self):
        for claim, paper in RIGHT:
            for at, part in enumerate(claim):
                if type(part) is int:
                    for value in never_numbers(0, 72) + [str(part), (part,), [part]]:
                        self.check(False, put(claim, (at,), value), paper)

    def test_wrong_nets(self):
        for claim, paper in RIGHT:
            for at, part in enumerate(claim):
                if part in (BITS, FLAT):
                    for net in wrong_nets()[::3]:
                        self.check(False, put(claim, (at,), net), paper)

    def test_papers_of_other_claims(self):
        for claim, _ in RIGHT:
            for other, paper in RIGHT:
                if claim[0] not in PLAIN and other[0] != claim[0]:
                    wanted = (claim[0], other[0]) in (("weakness", "outside"), ("outside", "weakness"))
                    self.check(wanted, claim, paper)

    def test_at_most_one_of_two_that_exclude_one_another(self):
        pairs = {
            "even": "uneven", "strength": "weakness", "dual": "no dual", "inside": "outside", "found": "barred",
            "free windows": "tied windows", "one stream": "two streams"}
        pairs.update({other: one for one, other in pairs.items()})
        papers = [paper for _, paper in RIGHT] + [0, 1, 2, 3, "width", "lines", "ball", (0, 1), (1, 1), ((0, 1), (1, 0))]
        for claim, _ in RIGHT:
            if claim[0] in pairs:
                self.check(False, (pairs[claim[0]], *claim[1:]), *papers)


if __name__ == "__main__":
    unittest.main()
