"""Polynomials of webs: what tells the closed walks of all lengths by ties of one colour."""

from littlewebs.checks import are_numbers, is_within
from littlewebs.errors import BadNumber, Misfit
from littlewebs.led import Unlike
from littlewebs.lengths import all_walks, closed_walks
from littlewebs.needs import need_colour
from littlewebs.newton import opposite_by, polynomial_by, traces_by
from littlewebs.pairs import need_coloured_pair
from littlewebs.papers import Denial, Paper
from littlewebs.web_needs import need_web

MOST_NUMBERS = 25
MOST_LENGTH = 100


class Rounds(Paper):
    """Both webs have this polynomial."""

    def __init__(self, polynomial):
        Paper.__init__(self, "rounds", polynomial)
        self.polynomial = self.parts[0]


class Both(Paper):
    """Both webs have this polynomial, and their opposites that one."""

    def __init__(self, polynomial, opposite):
        Paper.__init__(self, "both", polynomial, opposite)
        self.polynomial = self.parts[0]
        self.opposite = self.parts[1]


class Length(Denial):
    """The webs have unlike many closed walks of this length."""

    def __init__(self, number):
        Denial.__init__(self, "length", number)
        self.number = self.parts[0]


def polynomial_of(web, colour):
    """The polynomial of the web."""
    need_web(web, "web")
    need_colour(colour, "colour")
    return polynomial_by(closed_walks(web, colour, web.places + 1))


def traces_from(polynomial, many):
    """How many closed walks of the first so many lengths the polynomial tells."""
    _need_polynomial(polynomial)
    if not is_within(many, 0, MOST_LENGTH):
        raise BadNumber("many")
    return traces_by(polynomial, many)


def polynomial_from(traces):
    """The polynomial with so many closed walks of each length."""
    if not are_numbers(traces) or not 2 <= len(traces) <= MOST_NUMBERS or traces[0] != len(traces) - 1:
        raise BadNumber("traces")
    polynomial = polynomial_by(traces)
    if polynomial is None:
        raise Misfit("traces")
    return polynomial


def opposite_from(polynomial, sums):
    """The polynomial of the opposite, told by the polynomial and the walks of each length."""
    _need_polynomial(polynomial)
    if not are_numbers(sums) or len(sums) != len(polynomial) - 1:
        raise BadNumber("sums")
    return opposite_by(polynomial, sums)


def alike_rounds(one, other, colour):
    """The Rounds, if both webs have one polynomial; otherwise the least Length with unlike many closed walks."""
    need_coloured_pair(one, other, colour)
    polynomial, beside = polynomial_of(one, colour), polynomial_of(other, colour)
    if polynomial == beside:
        return Rounds(polynomial)
    many = max(len(polynomial), len(beside))
    return Length(_first_unlike(traces_by(polynomial, many), traces_by(beside, many)))


def alike_both(one, other, colour):
    """The Both, if the opposites have one polynomial, too; otherwise what is unlike: closed walks, or walks."""
    told = alike_rounds(one, other, colour)
    if type(told) == Length:
        return told
    sums, beside = all_walks(one, colour, one.places), all_walks(other, colour, one.places)
    # Where polynomials are one, walks of these lengths are alike exactly if the opposites have one polynomial.
    if sums != beside:
        return Unlike(colour * _first_unlike(sums, beside))
    return Both(told.polynomial, opposite_by(told.polynomial, sums))


def _need_polynomial(value):
    """Raise if the value, passed as polynomial, is none."""
    if not are_numbers(value) or not 2 <= len(value) <= MOST_NUMBERS or value[-1] != 1:
        raise BadNumber("polynomial")


def _first_unlike(numbers, others):
    """Where the numbers differ first; they do."""
    return [number == other for number, other in zip(numbers, others)].index(False)
