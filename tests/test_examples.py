"""The examples of the document, as they stand there."""

import doctest
import unittest

FIGURES = """
>>> from evennets.figures import is_base, rank_of, ties_of
>>> [is_base(2), is_base(4), is_base(True), rank_of(2, ((1, 0), (1, 1), (0, 1))), ties_of(2, ((1, 0), (1, 1), (0, 1))), ties_of(3, ((1, 2), (2, 1))), ties_of(5, ((1, 0), (0, 2)))]
[True, False, False, 2, ((1, 1, 1),), ((1, 1),), ()]
"""

BOXES = """
>>> from evennets.boxes import box_count, first_start, starts_in
>>> from evennets.nets import is_net, place_of, point_of, points_of
>>> unit, turned = ((1, 0), (0, 1)), ((0, 1), (1, 0))
>>> bits, flat, three = (2, (unit, turned)), (2, (unit, unit)), (3, (unit, turned, ((1, 1), (0, 1)), ((1, 2), (0, 1))))
>>> [is_net(bits), is_net((4, (unit,))), is_net((2, (unit, ((1, 0),)))), point_of(bits, (1, 0)), place_of(bits, (1, 0)), points_of(bits)]
[True, False, False, ((1, 0), (0, 1)), ((1, 2), (1, 4)), (((0, 0), (0, 0)), ((1, 0), (0, 1)), ((0, 1), (1, 0)), ((1, 1), (1, 1)))]
>>> [box_count(bits, ((1,), (1,))), box_count(flat, ((1,), (0,))), box_count(flat, ((1,), (1,))), box_count(flat, ((), ())), starts_in(flat, ((1,), (1,)))[1], starts_in(flat, ((1,), (0,))), first_start(flat, ((1,), (1,)))]
[1, 0, 2, 4, ((0, 1),), None, (1, 0)]
"""

# What the examples of the later modules take from the one of boxes.
SETUP = """
>>> unit, turned = ((1, 0), (0, 1)), ((0, 1), (1, 0))
>>> bits, flat, three = (2, (unit, turned)), (2, (unit, unit)), (3, (unit, turned, ((1, 1), (0, 1)), ((1, 2), (0, 1))))
"""

EVENS = """
>>> from evennets.evens import empty_box, even_tops, is_even, loss, strength
>>> [is_even(bits, (1, 1)), is_even(flat, (1, 1)), is_even(flat, (2, 0)), empty_box(bits, (1, 1)), empty_box(flat, (1, 1))[0]]
[True, False, True, None, ((1, 0), (1, 0))]
>>> [strength(bits), strength(flat), strength(three), loss(bits), loss(flat), even_tops(bits), even_tops(flat)]
[2, 1, 2, 0, 1, ((0, 2), (1, 1), (2, 0)), ((0, 2), (2, 0))]
"""

DUALS = """
>>> from evennets.duals import are_same_points, dual_base, is_dual, is_inside, least_word, net_with_dual, outside_start, shape_of, stair_weight
>>> [dual_base(bits), dual_base(flat), shape_of(bits, ((1, 1), (1, 0))), stair_weight(bits, ((0, 0), (0, 1))), is_dual(bits, ((1, 1), (1, 1))), is_dual(flat, ((1, 0), (0, 1)))]
[(((1, 0), (0, 1)), ((0, 1), (1, 0))), (((1, 0), (1, 0)), ((0, 1), (0, 1))), (2, 1), 2, True, False]
>>> [least_word(flat), stair_weight(bits, least_word(bits)), least_word((2, (((1, 0), (0, 1)),))), net_with_dual(2, (((1, 0), (0, 1)),)), net_with_dual(2, (((1,),),))]
[((1, 0), (1, 0)), 3, None, (2, (((1, 0, 0), (0, 1, 0)), ((0, 0, 1), (1, 0, 0)))), (2, (((0,),),))]
>>> [are_same_points(bits, net_with_dual(2, dual_base(bits))), are_same_points(bits, flat), is_inside(bits, net_with_dual(2, (((1, 0), (0, 1)),))), outside_start(bits, flat) in ((1, 0), (0, 1)), outside_start(flat, flat)]
[True, False, True, True, None]
"""

SHAPES = """
>>> from evennets.shapes import begun_with_noughts, lead_count, lead_counts, shape_count, shape_counts, weight_counts, words_within
>>> [words_within(bits, (1, 2)), words_within(bits, (1, 1)), words_within(flat, (1, 1)), begun_with_noughts(bits, (1, 0)), begun_with_noughts(flat, (1, 1)), shape_count(bits, (2, 2)), lead_count(flat, (0, 0))]
[2, 1, 2, 2, 2, 1, 2]
>>> [shape_counts(bits), lead_counts(bits), weight_counts(bits), weight_counts(flat)]
[(((0, 0), 1), ((1, 2), 1), ((2, 1), 1), ((2, 2), 1)), (((0, 0), 1), ((0, 1), 1), ((1, 0), 1), ((2, 2), 1)), (1, 0, 0, 2, 1), (1, 0, 1, 0, 2)]
"""


class Examples(unittest.TestCase):
    def check(self, name, text):
        told = []
        test = doctest.DocTestParser().get_doctest(text, {}, name, None, None)
        result = doctest.DocTestRunner(verbose=False).run(test, out=told.append)
        self.assertGreater(result.attempted, 0)
        self.assertEqual(result.failed, 0, "".join(told))

    def test_figures(self):
        self.check("figures", FIGURES)

    def test_boxes_and_nets(self):
        self.check("boxes", BOXES)

    def test_evens(self):
        self.check("evens", SETUP + EVENS)

    def test_duals(self):
        self.check("duals", SETUP + DUALS)

    def test_shapes(self):
        self.check("shapes", SETUP + SHAPES)


if __name__ == "__main__":
    unittest.main()
