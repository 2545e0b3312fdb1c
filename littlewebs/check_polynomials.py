"""Whether papers on polynomials of two webs are right."""

from littlewebs.checks import are_numbers, is_within
from littlewebs.led import Unlike
from littlewebs.newton import traces_by
from littlewebs.pairs import need_coloured_pair
from littlewebs.polynomials import MOST_LENGTH, Both, Length, Rounds, alike_both, alike_rounds, polynomial_of
from littlewebs.words import is_word_in, sum_of


def shows_rounds(one, other, colour, value):
    """Whether the value is the Rounds, or a Length of which there are unlike many closed walks."""
    need_coloured_pair(one, other, colour)
    if type(value) == Rounds:
        return are_numbers(value.polynomial) and alike_rounds(one, other, colour) == value
    return type(value) == Length and _is_unlike_length(one, other, colour, value.number)


def shows_both(one, other, colour, value):
    """Whether the value is the Both, such a Length, or an Unlike of a word of the colour with unlike sums."""
    need_coloured_pair(one, other, colour)
    if type(value) == Both:
        are_told = are_numbers(value.polynomial) and are_numbers(value.opposite)
        return are_told and alike_both(one, other, colour) == value
    if type(value) == Unlike:
        return is_word_in(value.letters, colour) and sum_of(one, value.letters) != sum_of(other, value.letters)
    return type(value) == Length and _is_unlike_length(one, other, colour, value.number)


def _is_unlike_length(one, other, colour, value):
    """Whether the webs have unlike many closed walks of this length, if the value is one that is let."""
    if not is_within(value, 0, MOST_LENGTH):
        return False
    ones, others = [traces_by(polynomial_of(web, colour), value + 1) for web in (one, other)]
    return ones[value] != others[value]
