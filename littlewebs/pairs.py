"""What is raised for two webs and letters, or a colour, that cannot be compared."""

from littlewebs.errors import BadWord
from littlewebs.needs import need_colour, need_few_places
from littlewebs.web_needs import need_web
from littlewebs.words import are_letters


def need_letters(value):
    """Raise if the value, passed as letters, is no string of letters."""
    if not are_letters(value):
        raise BadWord("letters")


def need_pair(one, other, letters, most):
    """Raise if one of both is no web, if the letters are none, or if one of both webs has more places than most."""
    need_web(one, "one")
    need_web(other, "other")
    need_letters(letters)
    need_few_places(max(one.places, other.places), most)


def need_coloured_pair(one, other, colour):
    """Raise if one of both is no web, or if the colour is none."""
    need_web(one, "one")
    need_web(other, "other")
    need_colour(colour, "colour")
