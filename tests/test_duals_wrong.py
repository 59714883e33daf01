"""Points 3 to 5 and the errors of evennets/duals.py: wrong nets, words and bases, nets unlike one another."""

import unittest

from evennets.duals import (
    are_same_points, dual_base, is_dual, is_inside, least_word, net_with_dual, outside_start, shape_of, stair_weight)
from evennets.errors import InvalidBase, InvalidNet, InvalidWord, InvalidWords, UnlikeNets
from tests.checks import Calls
from tests.samples import BASES, any_values, made_net, never_bases, put, wrong_nets
from tests.searches import poor_net, unit_table

OF_WORDS, OF_NETS = (shape_of, stair_weight, is_dual), (dual_base, least_word)
OF_BOTH = (are_same_points, is_inside, outside_start)
UNIT, TURNED = ((1, 0), (0, 1)), ((0, 1), (1, 0))
BITS = (2, (UNIT, TURNED))


class WrongArguments(Calls):
    def check_word(self, net, word):
        for function in OF_WORDS:
            self.refused(InvalidWord, word, function, net, word)

    def check_words(self, index, base, words):
        self.told_number(InvalidWords, "index", index, net_with_dual, base, words)

    def test_wrong_nets(self):
        for net in wrong_nets() + any_values():
            for function in OF_NETS:
                self.refused(InvalidNet, net, function, net)
            for function in OF_WORDS:
                self.refused(InvalidNet, net, function, net, ((0, 0), (0, 0)))
            for function in OF_BOTH:
                self.refused(InvalidNet, net, function, net, BITS)
                self.refused(InvalidNet, net, function, BITS, net)

    def test_wrong_net_ahead_of_the_rest(self):
        for net in (None, (4, (UNIT,)), (2, [UNIT]), [2, (UNIT,)], (2, ())):
            for word in (None, (), [(0, 0), (0, 0)], ((2, 0), (0, 0)), ((True, 0), (0, 0))):
                for function in OF_WORDS:
                    self.refused(InvalidNet, net, function, net, word)
            for other in (None, (2, ()), [2, (UNIT,)], (3, (UNIT, UNIT)), BITS):
                for function in OF_BOTH:
                    self.refused(InvalidNet, net, function, net, other)

    def test_wrong_words(self):
        for value in any_values():
            self.check_word(BITS, value)
            self.check_word(BITS, (value, (0, 0)))
            self.check_word(BITS, ((0, 0), value))
        for base in BASES:
            net = made_net("wrong", base, 2, 2, 3)
            for word in (
                    (), ((0, 0),), ((0, 0),) * 3, [(0, 0), (0, 0)], ([0, 0], (0, 0)), ((0, 0), [0, 0]), ((0,), (0, 0)),
                    ((0, 0), (0, 0, 0)), ((0, 0, 0), (0, 0, 0)), ((0,), (0,)), ((), ()), ((0, base), (0, 0)),
                    ((0, 0), (-1, 0)), ((True, 0), (0, 0)), ((0, 0), (0, False)), ((None, 0), (0, 0)), ("00", "00"),
                    (b"00", (0, 0)), (((0,), 0), (0, 0)), ((0, 0), (0, "0")), (0, 0, 0, 0), ((10 ** 399, 0), (0, 0)),
                    {(0, 0): (0, 0)}, (range(2), range(2))):
                self.check_word(net, word)

    def test_any_value_as_a_figure(self):
        for path in ((0, 0), (1, 1)):
            for value in any_values():
                word = put(((0, 0), (0, 0)), path, value)
                if type(value) is int and value in (0, 1):
                    self.assertEqual(self.told(stair_weight, BITS, word), value * (path[1] + 1))
                else:
                    self.check_word(BITS, word)

    def test_words_are_as_deep_as_the_net_not_as_wide(self):
        net = (2, (((1, 0, 1), (0, 1, 1)),))
        self.check_word(net, ((0, 0, 0),))
        self.assertEqual(stair_weight(net, ((0, 1),)), 2)

    def test_unlike_nets(self):
        for net, other in (
                (BITS, (3, (UNIT, TURNED))), (BITS, (2, (UNIT,))), (BITS, (2, (UNIT,) * 3)), (BITS, (2, (((1, 0),),) * 2)),
                (BITS, (2, (unit_table(3, 2),) * 2)), (BITS, (2, (unit_table(4, 2),))), ((2, (((1,),),)), (5, (((1,),),))),
                ((2, (unit_table(2, 2),) * 3), (2, (unit_table(3, 2),) * 2))):
            for function in OF_BOTH:
                self.told_nothing(UnlikeNets, function, net, other)
                self.told_nothing(UnlikeNets, function, other, net)
        for width in range(1, 13):
            other = made_net("unlike", 2, 2, 2, width)
            for function in OF_BOTH:
                self.told(function, BITS, other)
                self.told(function, other, BITS)

    def test_wrong_bases(self):
        for base in never_bases():
            for words in ((((1,),),), None, (), [((1,),)], (((2,),),), (((0,) * 12,) * 6,)):
                self.refused(InvalidBase, base, net_with_dual, base, words)

    def test_no_tuple_or_none(self):
        for base in BASES:
            for words in [[], [((1,),)], (), None, {((1,),): 1}, "words", 1, {((1,),)}, b"", range(1)]:
                self.check_words(None, base, words)
        for value in any_values():
            self.check_words(0 if isinstance(value, tuple) and value else None, 2, value)

    def test_index_of_the_first_wrong_word(self):
        for base in BASES:
            right = ((1, 0), (0, base - 1))
            for wrong in any_values() + [
                    (), ((),), ((), ()), ((1, 0), (0,)), ((1, 0), (0, 0, 0)), [(1, 0), (0, 1)], ([1, 0], (0, 1)),
                    ((1, 0), [0, 1]), ((base, 0), (0, 0)), ((0, 0), (0, -1)), ((True, 0), (0, 0)), ((0, 0), (0, False)),
                    ((0, 0), (None, 0)), ("10", "01"), {(1, 0): (0, 1)}, (range(2), range(2))]:
                for at in (0, 1, 2, 70):
                    self.check_words(at, base, (right,) * at + (wrong, right, wrong, None))

    def test_words_unlike_the_first_one(self):
        for base in BASES:
            right = ((1, 0), (0, base - 1))
            for unlike in (
                    ((1, 0),), ((1, 0),) * 3, ((1,), (0,)), ((1, 0, 0), (0, 0, 0)), ((0,) * 4,), ((0,),) * 4, ((0,),)):
                for at in (1, 2, 70):
                    self.check_words(at, base, (right,) * at + (unlike, right, unlike, None))
                self.check_words(1, base, (unlike, right, unlike, None))
                self.check_words(2, base, (unlike, unlike, right, None))

    def test_bounds_of_words(self):
        for base in BASES:
            for wrong in (((0,),) * 7, ((0,) * 13,), ((0,) * 13,) * 6, ((0,) * 12,) * 7, ((0, 0), (0, 0, 0)), ((0, 0), ())):
                self.check_words(0, base, (wrong,))
                self.check_words(0, base, (wrong,) * 3)
                self.check_words(1, base, (((0,),) * 6, wrong))
            for right in (((0,),) * 6, ((0,) * 12,)):
                self.told(net_with_dual, base, (right,))

    def test_wrong_words_ahead_of_too_many(self):
        zero = ((0,) * 12,) * 6
        self.check_words(1, 2, (zero, ((0,) * 12,) * 5))
        self.check_words(70, 2, (zero,) * 70 + (None,))

    def test_equal_calls(self):
        net, again = made_net("equal", 3, 2, 2, 3), made_net("equal", 3, 2, 2, 3)
        for function in OF_NETS:
            self.assertEqual(function(net), function(again))
        for function in OF_WORDS:
            self.assertEqual(function(net, ((1, 2), (0, 1))), function(again, ((1, 2), (0, 1))))
        for function in OF_BOTH:
            self.assertEqual(function(net, poor_net("e", 3, 2, 2, 3)), function(again, poor_net("e", 3, 2, 2, 3)))


if __name__ == "__main__":
    unittest.main()
