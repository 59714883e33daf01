"""A small checker of claims and of the papers that show them: it tells True or False, whatever it is passed."""

from evennets.bounds import are_sizes, barred_by
from evennets.boxes import is_box
from evennets.depths import are_depths, are_within
from evennets.duals import are_like_nets, is_dual, is_inside
from evennets.evens import is_even, most_strength, strength
from evennets.figures import is_base, is_row
from evennets.generators import (
    MOST_WINDOWS, answers, are_alike, enough_answers, first_unlike, is_generator, is_state, is_window_tie, window_tie)
from evennets.limits import are_few_starts
from evennets.nets import depth_of, is_net, is_start, point_at, width_of
from evennets.sequences import are_polynomials, are_tight
from evennets.waves import are_gammas, error_square
from evennets.wholes import is_fraction, is_whole, is_within
from evennets.words import is_word, shape_of_word, weighs


def is_nothing(paper):
    """Whether a paper is the one of claims for which none is told."""
    return isinstance(paper, tuple) and len(paper) == 0


def is_dual_word(net, value):
    """Whether a value, whatever it is, is a dual word of the net other than nought."""
    return is_word(net, value) and any(shape_of_word(value)) and is_dual(net, value)


def are_net_and_depths(parts):
    """Whether the parts are those of the claims on depths."""
    return len(parts) == 2 and is_net(parts[0]) and are_depths(parts[0], parts[1])


def are_net_and_number(parts):
    """Whether the parts are those of the claims on the strength."""
    return len(parts) == 2 and is_net(parts[0]) and is_within(parts[1], 0, most_strength(parts[0]))


def are_net_and_word(parts):
    """Whether the parts are those of the claims on words."""
    return len(parts) == 2 and is_net(parts[0]) and is_word(parts[0], parts[1])


def are_two_nets(parts):
    """Whether the parts are those of the claims on the points of two nets."""
    return len(parts) == 2 and is_net(parts[0]) and is_net(parts[1]) and are_like_nets(parts[0], parts[1])


def are_base_and_sizes(parts):
    """Whether the parts are those of the claims on what nets there are."""
    return len(parts) == 4 and is_base(parts[0]) and are_sizes(parts[1], parts[2], parts[3])


def are_net_and_error(parts):
    """Whether the parts are those of the claim on an error square."""
    if len(parts) != 3:
        return False
    net, gammas, fraction = parts
    if not is_net(net) or not are_few_starts(net[0], width_of(net)):
        return False
    return are_gammas(net, gammas) and is_fraction(fraction)


def are_base_and_powers(parts):
    """Whether the parts are those of the claim on tight powers, tight or not."""
    if len(parts) != 3:
        return False
    base, polynomials, powers = parts
    if not is_base(base) or not are_polynomials(base, polynomials):
        return False
    if not isinstance(powers, tuple) or len(powers) != len(polynomials):
        return False
    return all([is_whole(one) and one > 0 for one in powers])


def are_generator_and_window(parts):
    """Whether the parts are those of the claims on windows."""
    if len(parts) != 3:
        return False
    generator, windows, figures = parts
    if not is_generator(generator) or not is_within(windows, 1, MOST_WINDOWS):
        return False
    return is_within(figures, 1, len(generator[2]))


def are_two_streams(parts):
    """Whether the parts are those of the claims on two streams."""
    if len(parts) != 4:
        return False
    generator, start, other, begin = parts
    if not is_generator(generator) or not is_generator(other) or not are_alike(generator, other):
        return False
    return is_state(generator, start) and is_state(other, begin)


def shows_even(parts, paper):
    """Whether the depths are even."""
    net, depths = parts
    return is_nothing(paper) and is_even(net, depths)


def shows_uneven(parts, paper):
    """Whether the paper is a dual word within the depths and a box of these that it shows to be empty."""
    net, depths = parts
    if not isinstance(paper, tuple) or len(paper) != 2:
        return False
    word, box = paper
    if not is_dual_word(net, word) or not are_within(shape_of_word(word), depths):
        return False
    if not is_box(net, box) or tuple([len(figures) for figures in box]) != depths:
        return False
    return weighs(net[0], word, box) != 0


def shows_strength(parts, paper):
    """Whether the strength is the number at least."""
    net, number = parts
    return is_nothing(paper) and strength(net) >= number


def shows_weakness(parts, paper):
    """Whether the paper is a dual word of a stair weight up to the number."""
    net, number = parts
    return is_dual_word(net, paper) and sum(shape_of_word(paper)) <= number


def shows_dual(parts, paper):
    """Whether the word is a dual word."""
    net, word = parts
    return is_nothing(paper) and is_dual(net, word)


def shows_no_dual(parts, paper):
    """Whether the paper is a start at whose point the word does not weigh 0."""
    net, word = parts
    return is_start(net, paper) and weighs(net[0], word, point_at(net, paper)) != 0


def shows_inside(parts, paper):
    """Whether all points of the first net are points of the second one."""
    net, other = parts
    return is_nothing(paper) and is_inside(net, other)


def shows_outside(parts, paper):
    """Whether the paper is a dual word of the second net alone."""
    net, other = parts
    return is_dual_word(other, paper) and not is_dual(net, paper)


def shows_found(parts, paper):
    """Whether the paper is a net of these sizes and of the strength `size` at least."""
    base, width, dimensions, size = parts
    if not is_net(paper) or paper[0] != base or len(paper[1]) != dimensions:
        return False
    return width_of(paper) == width and depth_of(paper) == size and strength(paper) >= size


def shows_barred(parts, paper):
    """Whether the paper is the first reason that bars such nets."""
    base, width, dimensions, size = parts
    return isinstance(paper, str) and paper == barred_by(base, width, dimensions, size)


def shows_error_square(parts, paper):
    """Whether the fraction is the error square."""
    net, gammas, fraction = parts
    return is_nothing(paper) and error_square(net, gammas) == fraction


def shows_tight(parts, paper):
    """Whether the powers are tight."""
    base, polynomials, powers = parts
    return is_nothing(paper) and are_tight(base, polynomials, powers)


def shows_free_windows(parts, paper):
    """Whether there is no tie of the figures of the windows."""
    generator, windows, figures = parts
    return is_nothing(paper) and window_tie(generator, windows, figures) is None


def shows_tied_windows(parts, paper):
    """Whether the paper is a tie of the figures of the windows."""
    generator, windows, figures = parts
    if not isinstance(paper, tuple) or len(paper) != windows:
        return False
    if not all([is_row(generator[0], row, figures, figures) for row in paper]):
        return False
    return is_window_tie(generator, paper)


def shows_one_stream(parts, paper):
    """Whether both streams are the same for ever."""
    generator, start, other, begin = parts
    return is_nothing(paper) and first_unlike(generator, start, other, begin) is None


def shows_two_streams(parts, paper):
    """Whether the paper is an index at which the answers are unlike."""
    generator, start, other, begin = parts
    if not is_within(paper, 0, enough_answers(generator, other) - 1):
        return False
    return answers(generator, start, paper + 1)[paper] != answers(other, begin, paper + 1)[paper]


# By the text ahead of a claim, what its other parts are to be, and what is to be so of its paper.
FORMS = {
    "even": are_net_and_depths, "uneven": are_net_and_depths,
    "strength": are_net_and_number, "weakness": are_net_and_number,
    "dual": are_net_and_word, "no dual": are_net_and_word,
    "inside": are_two_nets, "outside": are_two_nets,
    "found": are_base_and_sizes, "barred": are_base_and_sizes,
    "error square": are_net_and_error, "tight": are_base_and_powers,
    "free windows": are_generator_and_window, "tied windows": are_generator_and_window,
    "one stream": are_two_streams, "two streams": are_two_streams,
}
PAPERS = {
    "even": shows_even, "uneven": shows_uneven, "strength": shows_strength, "weakness": shows_weakness,
    "dual": shows_dual, "no dual": shows_no_dual, "inside": shows_inside, "outside": shows_outside,
    "found": shows_found, "barred": shows_barred, "error square": shows_error_square, "tight": shows_tight,
    "free windows": shows_free_windows, "tied windows": shows_tied_windows,
    "one stream": shows_one_stream, "two streams": shows_two_streams,
}


def accepts(claim, paper):
    """Whether `claim` is a claim and `paper` is a paper for it, whatever both are."""
    if not isinstance(claim, tuple) or len(claim) == 0:
        return False
    name = claim[0]
    if not isinstance(name, str) or name not in FORMS:
        return False
    is_form = FORMS[name]
    shows = PAPERS[name]
    return is_form(claim[1:]) and shows(claim[1:], paper)
