"""Points 27 to 29, and evennets/rules.py: rules of polynomials, their nets, and the chains of two polynomials."""

import itertools
import unittest

from evennets.duals import dual_base, is_dual
from evennets.errors import (
    InvalidBase, InvalidModulus, InvalidPolynomial, InvalidRule, InvalidWord, NotFree, TooMany)
from evennets.evens import strength
from evennets.nets import is_net
from evennets.rules import (
    best_multiplier, chain_strength, divides_word, is_rule, quotient_degrees, rule_net)
from tests.checks import Calls, given
from tests.polynomials import (
    divided, gcd_degree, have_common_factor, lesser_ones, made_polynomial, never_polynomials, plus, polynomials_of,
    times, trimmed)
from tests.samples import BASES, any_values, made_rows, never_bases, put
from tests.searches import all_words, points_by_starts, searched_dual, weighed

WRONG_BASES = given(InvalidBase, never_bases())
BOTH = (2, (1, 1, 1), ((1,), (0, 1)))
# By base the greatest degrees of moduli with up to 4096 lesser polynomials.
GREATEST = {2: 12, 3: 7, 5: 5, 7: 4}


def small_rules():
    """Rules all of whose words can be walked over, with noughts, the same polynomials and common factors."""
    rules = []
    for base, sizes in (
            (2, ((1, 1), (1, 3), (2, 1), (2, 2), (3, 1), (3, 2), (4, 2), (2, 4), (3, 3), (1, 6), (8, 1))),
            (3, ((1, 1), (1, 3), (2, 1), (2, 2), (3, 2), (2, 3))), (5, ((1, 2), (2, 2), (3, 1))), (7, ((1, 2), (2, 2)))):
        for degree, many in sizes:
            for seed in range(4):
                modulus = made_polynomial(("modulus", seed), base, degree)
                rows = made_rows(("rule", seed), base, many, degree)
                rules.append((base, modulus, tuple(trimmed(row) for row in rows)))
            rules.append((base, (0,) * degree + (1,), ((1,),) * many))
            rules.append((base, (1,) + (0,) * (degree - 1) + (base - 1,), ((),) * many))
            rules.append((base, modulus, (trimmed(rows[0]),) * many))
    return rules


SMALL_RULES = small_rules()


def figures_of(base, above, below, many):
    """The first figures of a quotient, by a division of x^many times it."""
    quotient = divided(base, times(base, above, (0,) * many + (1,)), below)[0]
    return tuple(quotient[many - 1 - at] if many - 1 - at < len(quotient) else 0 for at in range(many))


def searched_net(rule):
    base, modulus, polynomials = rule
    m = len(modulus) - 1
    tables = []
    for one in polynomials:
        figures = figures_of(base, one, modulus, 2 * m)
        tables.append(tuple(tuple(figures[j + r - 1] for r in range(m)) for j in range(1, m + 1)))
    return base, tuple(tables)


def divides(rule, word):
    """Whether the modulus divides the sum, by the words of point 28."""
    base, modulus, polynomials = rule
    total = ()
    for part, one in zip(word, polynomials):
        total = plus(base, total, times(base, trimmed(part), one))
    return not divided(base, total, modulus)[1]


def searched_degrees(base, modulus, polynomial):
    """The degrees of the chain, by divisions with a rest."""
    degrees, above, below = [], modulus, polynomial
    while below:
        quotient, rest = divided(base, above, below)
        degrees.append(len(quotient) - 1)
        above, below = below, rest
    return tuple(degrees)


class IsRule(unittest.TestCase):
    def told(self, value):
        first = is_rule(value)
        self.assertIs(is_rule(value=value), first)
        return first

    def test_right(self):
        for rule in SMALL_RULES:
            self.assertIs(self.told(rule), True)
        for base in BASES:
            for degree in range(1, 13):
                modulus = made_polynomial("right", base, degree)
                for many in range(1, 7):
                    full = (base - 1,) * degree
                    for polynomials in ((full,) * many, ((),) * many, ((1,),) * many):
                        self.assertIs(self.told((base, modulus, polynomials)), True)

    def test_wrong(self):
        for value in wrong_rules():
            before = repr(value)
            self.assertIs(self.told(value), False, before)
            self.assertEqual(repr(value), before)


def wrong_rules():
    """Values that are no rule."""
    modulus, one = (1, 1, 1), (1,)
    wrong = any_values() + [
        (2, modulus), (2, modulus, (one,), ()), [2, modulus, (one,)], (2, modulus, one), (2, modulus, ()), (2, modulus, [one]),
        (2, modulus, (one,) * 7), (2, modulus, (modulus,)), (2, modulus, ((1, 1, 1, 1),)), (2, modulus, (one, (0, 0, 1))),
        (2, modulus, ((0,),)), (2, modulus, ((1, 0),)), (2, modulus, ((0, 0),)), (2, modulus, (one, [])), (2, modulus, ("",)),
        (2, modulus, (b"",)), (2, modulus, (one, None)), (2, modulus, ({},)), (2, modulus, ((2,),)), (2, modulus, ((True,),)),
        (2, modulus, ((0, True),)), (2, modulus, ((1,), (-1,))), (2, modulus, ([1],)), (2, modulus, (0,)), (2, (1,), ((),)),
        (2, (1,), ((1,),)), (2, (), ((),)), (2, (0, 0, 1, 0), ((),)), (2, (1,) * 14, (one,)), (2, (0,) * 13 + (1,), (one,)),
        (2, [1, 1], (one,)), (2, (1, 2), (one,)), (2, (True, 1), (one,)), (2, (1, True), (one,)), (2, "11", (one,)),
        (2, (1, -1), (one,)), (3, (1, 3), (one,)), (3, (1, 2), ((3,),)), (7, (1, 7), ((6,),)), (2, None, (one,)),
        (2, modulus, None), (2, modulus, 1), ((1,), modulus, 2), (2, ((1, 1), (1, 1)), (one,)), {0: 2, 1: modulus, 2: (one,)}]
    wrong += [(base, modulus, (one,)) for base in never_bases()]
    last_figures = [value for value in any_values() if not (type(value) is int and value == 1)]
    more = [value for value in any_values() if not (type(value) is tuple and value == ((),))]
    return wrong + [put(BOTH, path, value) for path in ((1,), (2,)) for value in more] + [
        put(BOTH, path, value) for path in ((1, 2), (2, 1, 1)) for value in last_figures]


class Nets(Calls):
    def test_figures(self):
        for rule in SMALL_RULES:
            net = self.told(rule_net, rule)
            self.assertTrue(is_net(net))
            self.assertEqual(net, searched_net(rule))

    def test_large_rules(self):
        for base in BASES:
            for degree in (7, 11, 12):
                rule = (base, made_polynomial("large", base, degree), tuple(
                    made_polynomial(("large", at), base, (3 * at + 2) % degree) for at in range(5)) + ((),))
                net = self.told(rule_net, rule)
                self.assertTrue(is_net(net))
                self.assertEqual(net, searched_net(rule))

    def test_wrong_rules(self):
        self.check_wrong(rule_net, (BOTH,), given(InvalidRule, wrong_rules()))


class Words(Calls):
    def test_all_words(self):
        for rule in SMALL_RULES:
            net = rule_net(rule)
            words = all_words(net)
            points = {point for _, point in points_by_starts(net)}
            for word in words[::1 + len(words) // 300]:
                wanted = divides(rule, word)
                self.assertIs(divides_word(rule, word), wanted)
                self.assertIs(is_dual(net, word), wanted)
                self.assertIs(all(weighed(rule[0], word, point) == 0 for point in points), wanted)

    def test_all_ways_of_calling(self):
        for rule in SMALL_RULES[::3]:
            words = all_words(rule_net(rule))
            for word in (words[0], words[-1], words[len(words) // 2]):
                self.assertIs(self.told(divides_word, rule, word), divides(rule, word))

    def test_dual_words_of_large_rules(self):
        for base in BASES:
            for degree in (5, 12):
                modulus = made_polynomial("words", base, degree)
                rule = (base, modulus, tuple(made_polynomial(("w", at), base, degree - 1 - at % 3) for at in range(6)))
                for word in dual_base(rule_net(rule))[:20]:
                    self.assertTrue(divides_word(rule, word))
                    self.assertFalse(divides_word(rule, put(word, (5, 0), (word[5][0] + 1) % base)))

    def test_rules_multiplied(self):
        for rule in SMALL_RULES:
            base, modulus, polynomials = rule
            for seed in range(3):
                factor = trimmed(made_rows(("factor", seed), base, 1, len(modulus) - 1)[0])
                if factor and gcd_degree(base, factor, modulus) == 0:
                    products = tuple(divided(base, times(base, factor, one), modulus)[1] for one in polynomials)
                    self.assertEqual(dual_base(rule_net((base, modulus, products))), dual_base(rule_net(rule)))

    def test_wrong_arguments(self):
        wrong = any_values() + [
            ((1, 0),), ((1, 0),) * 3, ((1, 0), (2, 0)), ((1, 0), (0, True)), [(1, 0), (0, 1)], ((1, 0), (0, 1, 0)),
            ((1, 0), [0, 1]), ((0,), (0,)), ((1, 0), (-1, 0)), ((1, 0), ()), ((1, 0), (0, None))]
        self.check_wrong(
            divides_word, (BOTH, ((1, 1), (0, 1))), given(InvalidRule, wrong_rules()), given(InvalidWord, wrong))


class Chains(Calls):
    def pairs(self):
        """Moduli and lesser polynomials, all of them for small moduli."""
        for base, degrees in ((2, (1, 2, 3, 4)), (3, (1, 2)), (5, (1,)), (7, (1,))):
            for degree in degrees:
                for modulus in polynomials_of(base, degree):
                    for one in lesser_ones(base, degree):
                        if one:
                            yield base, modulus, one
        for base in BASES:
            for degree in (3, 5, 12):
                for seed in range(6):
                    modulus = made_polynomial(("chain", seed), base, degree)
                    for less in {0, 1, degree - 1, degree // 2}:
                        yield base, modulus, made_polynomial(("less", seed), base, less)

    def test_degrees(self):
        for number, (base, modulus, one) in enumerate(self.pairs()):
            wanted = searched_degrees(base, modulus, one)
            function = self.told if number % 9 == 0 else lambda call, *arguments: call(*arguments)
            self.assertEqual(function(quotient_degrees, base, modulus, one), wanted)
            self.assertEqual(sum(wanted), len(modulus) - 1 - gcd_degree(base, modulus, one))

    def test_strength(self):
        for number, (base, modulus, one) in enumerate(self.pairs()):
            if gcd_degree(base, modulus, one):
                self.told_nothing(NotFree, chain_strength, base, modulus, one)
                continue
            found = chain_strength(base, modulus, one)
            self.assertEqual(found, len(modulus) - max(searched_degrees(base, modulus, one)))
            self.assertEqual(found, strength(rule_net((base, modulus, ((1,), one)))))
            if number % 9 == 0:
                self.assertEqual(self.told(chain_strength, base, modulus, one), found)

    def test_common_factors_by_trying_all(self):
        for base, modulus, one in self.pairs():
            if len(modulus) < 5:
                common = have_common_factor(base, modulus, one)
                if common:
                    self.told_nothing(NotFree, chain_strength, base, modulus, one)
                else:
                    chain_strength(base, modulus, one)

    def test_strength_by_a_walk_over_all_words(self):
        for modulus in polynomials_of(2, 3):
            for one in lesser_ones(2, 3):
                if one and not gcd_degree(2, modulus, one):
                    net = rule_net((2, modulus, ((1,), one)))
                    weights = [
                        sum(max((at for at, figure in enumerate(part, 1) if figure), default=0) for part in word)
                        for word in searched_dual(net) if any(map(any, word))]
                    self.assertEqual(chain_strength(2, modulus, one), min(weights) - 1)

    def test_degree_of_one(self):
        for base in BASES:
            for modulus in polynomials_of(base, 1):
                for figure in range(1, base):
                    self.assertEqual(quotient_degrees(base, modulus, (figure,)), (1,))
                    self.assertEqual(chain_strength(base, modulus, (figure,)), 1)

    def test_wrong_arguments(self):
        for base in BASES:
            moduli = given(InvalidModulus, any_values() + never_polynomials(base, 1, 12))
            lesser = given(InvalidPolynomial, any_values_but_polynomials(base) + never_polynomials(base, 0, 2) + [
                (), (1, 1, 1, 1), (0, 0, 0, 1), (1, 0), (0,)])
            for function in (quotient_degrees, chain_strength):
                self.check_wrong(function, (base, (1, 0, 0, 1), (1,)), WRONG_BASES, moduli, lesser)
        self.refused(InvalidPolynomial, (0, 1), chain_strength, 2, (0, 1), (0, 1))
        self.refused(InvalidPolynomial, (), chain_strength, 2, (0, 0, 1), ())
        self.told_nothing(NotFree, chain_strength, 2, (0, 0, 1), (0, 1))


def any_values_but_polynomials(base):
    """The values of `any_values` but those that are polynomials over the base with up to three figures."""
    return [value for value in any_values() if not (type(value) is tuple and value == (2,) and base > 2)]


def searched_multiplier(base, modulus):
    """The least of the polynomials that give the greatest strength, by trying all."""
    found = []
    for one in lesser_ones(base, len(modulus) - 1):
        if one and not gcd_degree(base, modulus, one):
            found.append((max(searched_degrees(base, modulus, one)), one))
    return min(found)[1]


class Multipliers(Calls):
    def test_small_moduli(self):
        for base, degrees in ((2, (1, 2, 3, 4, 5)), (3, (1, 2, 3)), (5, (1, 2)), (7, (1, 2))):
            for degree in degrees:
                some = polynomials_of(base, degree)
                for number, modulus in enumerate(some[::1 + len(some) // 40]):
                    wanted = searched_multiplier(base, modulus)
                    self.assertEqual(best_multiplier(base, modulus), wanted)
                    if number % 9 == 0:
                        self.assertEqual(self.told(best_multiplier, base, modulus), wanted)

    def test_just_4096_and_less(self):
        for base in BASES:
            modulus = made_polynomial("greatest", base, GREATEST[base])
            self.assertEqual(self.told(best_multiplier, base, modulus), searched_multiplier(base, modulus))
        for modulus in ((0,) * 12 + (1,), (1,) * 13):
            self.assertEqual(self.told(best_multiplier, 2, modulus), searched_multiplier(2, modulus))

    def test_too_many(self):
        for base in (3, 5, 7):
            for degree in range(GREATEST[base] + 1, 13):
                modulus = made_polynomial("many", base, degree)
                self.told_number(TooMany, "given", base ** degree, best_multiplier, base, modulus)
                self.told(quotient_degrees, base, modulus, (1,))

    def test_wrong_arguments(self):
        for base in BASES:
            moduli = given(InvalidModulus, any_values() + never_polynomials(base, 1, 12))
            self.check_wrong(best_multiplier, (base, (1, 0, 1)), WRONG_BASES, moduli)

    def test_tuples_are_compared_not_degrees(self):
        # (0, 1) stands ahead of (1,), and (0, 0, 1) ahead of (0, 1).
        self.assertEqual(self.told(best_multiplier, 3, (1, 2)), (1,))
        for base, modulus in ((2, (1, 1, 1)), (3, (1, 0, 1)), (5, (2, 0, 1))):
            wanted = min(
                one for one in itertools.chain(*[polynomials_of(base, degree) for degree in range(2)])
                if searched_degrees(base, modulus, one) == (1, 1))
            self.assertEqual(best_multiplier(base, modulus), wanted)


if __name__ == "__main__":
    unittest.main()
