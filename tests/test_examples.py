"""The examples of the document, as they stand there."""

import doctest
import unittest

FIGURES = """
>>> from evennets.figures import is_base, rank_of, ties_of
>>> [is_base(2), is_base(4), is_base(True), rank_of(2, ((1, 0), (1, 1), (0, 1))), ties_of(2, ((1, 0), (1, 1), (0, 1))), ties_of(3, ((1, 2), (2, 1))), ties_of(5, ((1, 0), (0, 2)))]
[True, False, False, 2, ((1, 1, 1),), ((1, 1),), ()]
"""

NETS = """
>>> from evennets.nets import is_net, place_of, point_of, points_of
>>> unit, turned = ((1, 0), (0, 1)), ((0, 1), (1, 0))
>>> bits, flat, three = (2, (unit, turned)), (2, (unit, unit)), (3, (unit, turned, ((1, 1), (0, 1)), ((1, 2), (0, 1))))
>>> [is_net(bits), is_net((4, (unit,))), is_net((2, (unit, ((1, 0),)))), point_of(bits, (1, 0)), place_of(bits, (1, 0)), points_of(bits)]
[True, False, False, ((1, 0), (0, 1)), ((1, 2), (1, 4)), (((0, 0), (0, 0)), ((1, 0), (0, 1)), ((0, 1), (1, 0)), ((1, 1), (1, 1)))]
"""


class Examples(unittest.TestCase):
    def check(self, name, text):
        told = []
        test = doctest.DocTestParser().get_doctest(text, {}, name, None, None)
        result = doctest.DocTestRunner(verbose=False).run(test, out=told.append)
        self.assertGreater(result.attempted, 0)
        self.assertEqual(result.failed, 0, "".join(told))

    def test_figures(self):
        self.check("figures", FIGURES)

    def test_nets(self):
        self.check("nets", NETS)


if __name__ == "__main__":
    unittest.main()
