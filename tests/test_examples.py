"""The examples of the document, as they stand there."""

import doctest
import unittest

FIGURES = """
>>> from evennets.figures import is_base, rank_of, ties_of
>>> [is_base(2), is_base(4), is_base(True), rank_of(2, ((1, 0), (1, 1), (0, 1))), ties_of(2, ((1, 0), (1, 1), (0, 1))), ties_of(3, ((1, 2), (2, 1))), ties_of(5, ((1, 0), (0, 2)))]
[True, False, False, 2, ((1, 1, 1),), ((1, 1),), ()]
"""

BOXES = """
>>> from evennets.boxes import box_count, first_start, starts_in
>>> from evennets.nets import is_net, place_of, point_of, points_of
>>> unit, turned = ((1, 0), (0, 1)), ((0, 1), (1, 0))
>>> bits, flat, three = (2, (unit, turned)), (2, (unit, unit)), (3, (unit, turned, ((1, 1), (0, 1)), ((1, 2), (0, 1))))
>>> [is_net(bits), is_net((4, (unit,))), is_net((2, (unit, ((1, 0),)))), point_of(bits, (1, 0)), place_of(bits, (1, 0)), points_of(bits)]
[True, False, False, ((1, 0), (0, 1)), ((1, 2), (1, 4)), (((0, 0), (0, 0)), ((1, 0), (0, 1)), ((0, 1), (1, 0)), ((1, 1), (1, 1)))]
>>> [box_count(bits, ((1,), (1,))), box_count(flat, ((1,), (0,))), box_count(flat, ((1,), (1,))), box_count(flat, ((), ())), starts_in(flat, ((1,), (1,)))[1], starts_in(flat, ((1,), (0,))), first_start(flat, ((1,), (1,)))]
[1, 0, 2, 4, ((0, 1),), None, (1, 0)]
"""

# What the examples of the later modules take from the one of boxes.
SETUP = """
>>> unit, turned = ((1, 0), (0, 1)), ((0, 1), (1, 0))
>>> bits, flat, three = (2, (unit, turned)), (2, (unit, unit)), (3, (unit, turned, ((1, 1), (0, 1)), ((1, 2), (0, 1))))
"""

EVENS = """
>>> from evennets.evens import empty_box, even_tops, is_even, loss, strength
>>> [is_even(bits, (1, 1)), is_even(flat, (1, 1)), is_even(flat, (2, 0)), empty_box(bits, (1, 1)), empty_box(flat, (1, 1))[0]]
[True, False, True, None, ((1, 0), (1, 0))]
>>> [strength(bits), strength(flat), strength(three), loss(bits), loss(flat), even_tops(bits), even_tops(flat)]
[2, 1, 2, 0, 1, ((0, 2), (1, 1), (2, 0)), ((0, 2), (2, 0))]
"""

DUALS = """
>>> from evennets.duals import are_same_points, dual_base, is_dual, is_inside, least_word, net_with_dual, outside_start, shape_of, stair_weight
>>> [dual_base(bits), dual_base(flat), shape_of(bits, ((1, 1), (1, 0))), stair_weight(bits, ((0, 0), (0, 1))), is_dual(bits, ((1, 1), (1, 1))), is_dual(flat, ((1, 0), (0, 1)))]
[(((1, 0), (0, 1)), ((0, 1), (1, 0))), (((1, 0), (1, 0)), ((0, 1), (0, 1))), (2, 1), 2, True, False]
>>> [least_word(flat), stair_weight(bits, least_word(bits)), least_word((2, (((1, 0), (0, 1)),))), net_with_dual(2, (((1, 0), (0, 1)),)), net_with_dual(2, (((1,),),))]
[((1, 0), (1, 0)), 3, None, (2, (((1, 0, 0), (0, 1, 0)), ((0, 0, 1), (1, 0, 0)))), (2, (((0,),),))]
>>> [are_same_points(bits, net_with_dual(2, dual_base(bits))), are_same_points(bits, flat), is_inside(bits, net_with_dual(2, (((1, 0), (0, 1)),))), outside_start(bits, flat) in ((1, 0), (0, 1)), outside_start(flat, flat)]
[True, False, True, True, None]
"""

SHAPES = """
>>> from evennets.shapes import begun_with_noughts, lead_count, lead_counts, shape_count, shape_counts, weight_counts, words_within
>>> [words_within(bits, (1, 2)), words_within(bits, (1, 1)), words_within(flat, (1, 1)), begun_with_noughts(bits, (1, 0)), begun_with_noughts(flat, (1, 1)), shape_count(bits, (2, 2)), lead_count(flat, (0, 0))]
[2, 1, 2, 2, 2, 1, 2]
>>> [shape_counts(bits), lead_counts(bits), weight_counts(bits), weight_counts(flat)]
[(((0, 0), 1), ((1, 2), 1), ((2, 1), 1), ((2, 2), 1)), (((0, 0), 1), ((0, 1), 1), ((1, 0), 1), ((2, 2), 1)), (1, 0, 0, 2, 1), (1, 0, 1, 0, 2)]
"""

BOUNDS = """
>>> from evennets.bounds import ball_size, barred_by, grown_net, will_grow
>>> [ball_size(2, 2, 2, 1), ball_size(2, 2, 2, 4), ball_size(3, 1, 2, 2), ball_size(2, 6, 4, 2)]
[3, 16, 9, 34]
>>> [barred_by(2, 2, 3, 2), barred_by(2, 2, 4, 2), barred_by(2, 3, 3, 4), barred_by(2, 5, 6, 4), will_grow(2, 2, 3, 2), will_grow(2, 2, 4, 2), grown_net(2, 2, 4, 2)]
[None, 'lines', 'width', 'ball', True, False, None]
>>> grown_net(2, 2, 3, 2)
(2, (((1, 0), (0, 1)), ((0, 1), (1, 0)), ((1, 1), (1, 0))))
"""

WAVES = """
>>> from evennets.waves import error_square, gain, mean_error, rests, scrambled_square
>>> one, two, half, nil = (1, 1), (2, 1), (1, 2), (0, 1)
>>> [rests(bits, ((1, 0), (0, 1))), rests(bits, ((1, 0), (0, 0))), rests(three, ((1, 0), (0, 0), (0, 0), (0, 0)))]
[(4, 0), (2, 2), (3, 3, 3)]
>>> [mean_error(bits, (1, 1), (one, two, nil, (5, 1))), mean_error(flat, (1, 1), (one, nil, nil, nil)), error_square(bits, (one, one)), error_square(bits, (one, nil))]
[(0, 1), (1, 4), (9, 256), (0, 1)]
>>> [gain(bits, (1, 1)), gain(bits, (1, 2)), gain(bits, (2, 2)), scrambled_square(bits, (((1, 2), one), ((1, 1), (5, 1))))]
[(0, 1), (1, 2), (1, 4), (1, 2)]
"""

NEWS = """
>>> from evennets.evens import strength
>>> from evennets.news import cut_depth, led_starts, put_together, scrambled, stacked, stretched, with_dimensions
>>> [put_together(flat, (2, (((1,), (0,)),))), stacked((2, (((1,),),)), (2, (((1,),),))), with_dimensions(bits, (1,)), cut_depth(bits, 1)]
[(2, (((1, 0, 0), (0, 1, 0)), ((1, 0, 0), (0, 1, 0)), ((0, 0, 1), (0, 0, 0)))), (2, (((1, 1),), ((0, 1),))), (2, (((0, 1), (1, 0)),)), (2, (((1, 0),), ((0, 1),)))]
>>> [stretched(bits, 0, 1), scrambled(bits, (((1, 0), (1, 1)), ((1, 0), (0, 1)))), led_starts(bits, ((1, 1), (0, 1)))]
[(2, (((1,),), ((1,),))), (2, (((1, 0), (1, 1)), ((0, 1), (1, 0)))), (2, (((1, 1), (0, 1)), ((0, 1), (1, 1))))]
>>> [strength(put_together(bits, flat)), strength(stacked(flat, bits)), strength(stretched(bits, 0, 1))]
[1, 2, 1]
"""

# What the examples of sequences take from the one of evens.
STRENGTH = """
>>> from evennets.evens import strength
"""

SEQUENCES = """
>>> from evennets.sequences import narrowed, pascal_net, row_at, sequence_net, sure_loss, tight_powers, with_turned
>>> x, one_more, square = (0, 1), (1, 1), (1, 1, 1)
>>> [row_at(2, x, 1, 3), row_at(2, x, 2, 3), row_at(2, one_more, 1, 3), row_at(2, one_more, 2, 3), row_at(2, square, 1, 6), row_at(2, square, 2, 4), row_at(3, (1, 1), 1, 4)]
[(1, 0, 0), (0, 1, 0), (1, 1, 1), (0, 1, 0), (0, 1, 1, 0, 1, 1), (1, 1, 0, 1), (1, 2, 1, 2)]
>>> [sequence_net(2, (x, one_more), 2, 2), sure_loss(2, (x, one_more, square)), pascal_net(3, 3, 2) == (3, three[1][:1] + three[1][2:]), strength(with_turned(pascal_net(3, 3, 2))), narrowed(bits, 1), with_turned((2, (unit,))) == bits]
[(2, (((1, 0), (0, 1)), ((1, 1), (0, 1)))), 1, True, 2, (2, (((1,), (0,)), ((0,), (1,)))), True]
"""

RULES = """
>>> from evennets.rules import best_multiplier, chain_strength, divides_word, is_rule, quotient_degrees, rule_net
>>> both = (2, (1, 1, 1), ((1,), (0, 1)))
>>> [rule_net(both), quotient_degrees(2, (1, 1, 1), (0, 1)), quotient_degrees(2, (1, 1, 1), (1,)), chain_strength(2, (1, 1, 1), (0, 1)), chain_strength(2, (1, 1, 1), (1,)), best_multiplier(2, (1, 1, 1))]
[(2, (((0, 1), (1, 1)), ((1, 1), (1, 0)))), (1, 1), (2,), 2, 1, (0, 1)]
>>> [divides_word(both, ((1, 1), (0, 1))), divides_word(both, ((0, 1), (1, 0))), divides_word(both, ((1, 0), (1, 0))), is_rule((2, (1, 1, 1), ((1, 1, 1),)))]
[True, True, False, False]
>>> chain_strength(2, (0, 0, 1), (0, 1))
Traceback (most recent call last):
evennets.errors.NotFree
"""

GENERATORS = """
>>> from evennets.generators import are_same_streams, is_one_round, jumped, parity_of, round_of, staircase, stray_start, stream, windows_net
>>> gold = (2, ((0, 1), (1, 1)), ((1, 0),))
>>> [stream(gold, (1, 0), 4), jumped(gold, (1, 0), 3), jumped(gold, (1, 0), 10 ** 30), windows_net(gold, 2), staircase(gold), parity_of(gold, 3, 1), parity_of(gold, 2, 1)]
[((1,), (0,), (1,), (1,)), (1, 0), (0, 1), (2, (((1, 0),), ((0, 1),))), (2,), ((1,), (1,), (1,)), None]
>>> calm = (2, ((1, 0), (0, 0)), ((1, 0),))
>>> [round_of(gold, (1, 0)), round_of(gold, (0, 0)), round_of(calm, (0, 1)), is_one_round(gold), is_one_round(calm), are_same_streams(gold, (1, 1), gold, (1, 0)), stray_start(gold, gold), stray_start(calm, gold) in ((1, 0), (1, 1))]
[(0, 3), (0, 1), (1, 1), True, False, False, None, True]
"""

# What the examples of the checker and of the certificates take from the ones ahead of them.
GOLD = """
>>> gold = (2, ((0, 1), (1, 1)), ((1, 0),))
"""

CERTIFICATES = """
>>> from evennets.certificates import certify_depths, certify_size, certify_strength, certify_windows, certify_word
>>> from evennets.checker import accepts
>>> [certify_depths(bits, (1, 1)), certify_strength(bits, 2)[0][0], certify_strength(flat, 2)[0], certify_word(bits, ((1, 0), (0, 1))), certify_windows(gold, 3, 1)[0][0]]
[(('even', (2, (((1, 0), (0, 1)), ((0, 1), (1, 0)))), (1, 1)), ()), 'strength', ('weakness', (2, (((1, 0), (0, 1)), ((1, 0), (0, 1)))), 2), (('dual', (2, (((1, 0), (0, 1)), ((0, 1), (1, 0)))), ((1, 0), (0, 1))), ()), 'tied windows']
>>> [accepts(("uneven", flat, (1, 1)), (((1, 0), (1, 0)), ((0,), (1,)))), accepts(("uneven", flat, (1, 1)), (((1, 0), (1, 0)), ((1,), (1,)))), accepts(("weakness", flat, 2), ((1, 0), (1, 0))), accepts(("strength", flat, 2), ()), accepts(("found", 2, 2, 3, 2), (2, (unit, turned, ((1, 1), (0, 1)))))]
[True, False, True, False, True]
>>> [certify_size(2, 2, 4, 2), accepts(("barred", 2, 2, 4, 2), "ball"), accepts(("tight", 2, ((1, 1, 1),), (1,)), ()), accepts(("one stream", gold, (1, 0), gold, (1, 0)), ()), accepts(("two streams", gold, (1, 1), gold, (1, 0)), 1)]
[(('barred', 2, 2, 4, 2), 'lines'), False, True, True, True]
"""


class Examples(unittest.TestCase):
    def check(self, name, text):
        told = []
        test = doctest.DocTestParser().get_doctest(text, {}, name, None, None)
        result = doctest.DocTestRunner(verbose=False).run(test, out=told.append)
        self.assertGreater(result.attempted, 0)
        self.assertEqual(result.failed, 0, "".join(told))

    def test_figures(self):
        self.check("figures", FIGURES)

    def test_boxes_and_nets(self):
        self.check("boxes", BOXES)

    def test_evens(self):
        self.check("evens", SETUP + EVENS)

    def test_duals(self):
        self.check("duals", SETUP + DUALS)

    def test_shapes(self):
        self.check("shapes", SETUP + SHAPES)

    def test_bounds(self):
        self.check("bounds", BOUNDS)

    def test_waves(self):
        self.check("waves", SETUP + WAVES)

    def test_news(self):
        self.check("news", SETUP + NEWS)

    def test_sequences(self):
        self.check("sequences", SETUP + STRENGTH + SEQUENCES)

    def test_rules(self):
        self.check("rules", RULES)

    def test_generators(self):
        self.check("generators", GENERATORS)

    def test_certificates_and_checker(self):
        self.check("certificates", SETUP + GOLD + CERTIFICATES)


if __name__ == "__main__":
    unittest.main()
