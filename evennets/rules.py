"""Rules of polynomials: nets whose rows are the figures of quotients."""

from evennets.errors import InvalidModulus, InvalidPolynomial, InvalidRule, NotFree
from evennets.figures import check_base, is_base
from evennets.limits import MOST_DIMENSIONS, MOST_WIDTH, check_few_starts
from evennets.nets import start_at
from evennets.polynomials import chain_of, is_polynomial, modulo, quotient_figures, sum_of, times, trimmed
from evennets.wholes import power
from evennets.words import check_word


def is_modulus(base, value):
    """Whether a value, whatever it is, is a polynomial of a degree from 1 to 12."""
    return is_polynomial(base, value, 2, MOST_WIDTH + 1)


def is_lesser(base, modulus, value):
    """Whether a value, whatever it is, is a polynomial with fewer figures than the modulus has."""
    return is_polynomial(base, value, 1, len(modulus) - 1)


def is_lesser_or_nought(base, modulus, value):
    """Whether a value, whatever it is, is such a polynomial or ()."""
    return is_lesser(base, modulus, value) or isinstance(value, tuple) and len(value) == 0


def is_rule(value):
    """Whether a value, whatever it is, is a rule."""
    if not isinstance(value, tuple) or len(value) != 3:
        return False
    base, modulus, polynomials = value
    if not is_base(base) or not is_modulus(base, modulus):
        return False
    if not isinstance(polynomials, tuple) or not 1 <= len(polynomials) <= MOST_DIMENSIONS:
        return False
    return all([is_lesser_or_nought(base, modulus, one) for one in polynomials])


def check_rule(rule):
    """Raise InvalidRule for what is no rule."""
    if not is_rule(rule):
        raise InvalidRule(rule)


def check_modulus(base, modulus):
    """Raise the first error of a base and a modulus over it."""
    check_base(base)
    if not is_modulus(base, modulus):
        raise InvalidModulus(modulus)


def check_lesser(base, modulus, polynomial):
    """Raise the first error of a base, a modulus and a polynomial, not nought, with fewer figures."""
    check_modulus(base, modulus)
    if not is_lesser(base, modulus, polynomial):
        raise InvalidPolynomial(polynomial)


def quotient_table(base, modulus, polynomial):
    """The table of a quotient: row by row its figures, each time from the next one on."""
    width = len(modulus) - 1
    figures = quotient_figures(base, polynomial, modulus, 2 * width - 1)
    return tuple([figures[at:at + width] for at in range(width)])


def net_of(rule):
    """The net of a rule, without any checks."""
    base, modulus, polynomials = rule
    return base, tuple([quotient_table(base, modulus, one) for one in polynomials])


def rule_net(rule):
    """The net of the rule."""
    check_rule(rule)
    return net_of(rule)


def divides_word(rule, word):
    """Whether the modulus divides the sum of the word's polynomials, each times the rule's one."""
    check_rule(rule)
    check_word(net_of(rule), word)
    base, modulus, polynomials = rule
    total = ()
    for part, one in zip(word, polynomials):
        total = sum_of(base, total, times(base, trimmed(part), one))
    return len(modulo(base, total, modulus)) == 0


def degrees_of(quotients):
    """The degrees of the quotients, in order."""
    return tuple([len(one) - 1 for one in quotients])


def quotient_degrees(base, modulus, polynomial):
    """The degrees of the quotients of the chain of the polynomial by the modulus, in order."""
    check_lesser(base, modulus, polynomial)
    return degrees_of(chain_of(base, modulus, polynomial)[0])


def strength_by_chain(base, modulus, polynomial):
    """The strength of the net of 1 and the polynomial, None if this and the modulus have a common factor."""
    quotients, common = chain_of(base, modulus, polynomial)
    return len(modulus) - max(degrees_of(quotients)) if len(common) == 1 else None


def chain_strength(base, modulus, polynomial):
    """The strength of the net of the rule with the polynomials 1 and the told one."""
    check_lesser(base, modulus, polynomial)
    strength = strength_by_chain(base, modulus, polynomial)
    if strength is None:
        raise NotFree()
    return strength


def lesser_polynomials(base, modulus):
    """All polynomials but nought with fewer figures than the modulus, ascending as tuples."""
    width = len(modulus) - 1
    return sorted([trimmed(start_at(base, width, number)) for number in range(1, power(base, width))])


def best_multiplier(base, modulus):
    """The least polynomial, as tuples are compared, that gives the greatest strength."""
    check_modulus(base, modulus)
    check_few_starts(base, len(modulus) - 1)
    best = None
    most = 0
    for one in lesser_polynomials(base, modulus):
        strength = strength_by_chain(base, modulus, one)
        if strength is not None and strength > most:
            best = one
            most = strength
    return best
