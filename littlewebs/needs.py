"""Colours and places, and what is raised for what is none."""

from littlewebs.checks import is_within
from littlewebs.errors import BadNumber, NoPlace, TooMany

COLOURS = ("a", "b", "c", "d")


def is_colour(value):
    """Whether any value is a colour."""
    return isinstance(value, str) and value in COLOURS


def need_colour(value, part):
    """Raise if the value, passed as this part, is no colour."""
    if not is_colour(value):
        raise BadNumber(part)


def need_place(value, places):
    """Raise if the value is none of so many places."""
    if not is_within(value, 0, places - 1):
        raise NoPlace(value)


def need_few_places(places, most):
    """Raise if there are more places than most."""
    if places > most:
        raise TooMany("places", most)
