"""Lots of places, and what is raised for what are none."""

from littlewebs.checks import are_numbers, first_twice
from littlewebs.errors import BadLot, Twice
from littlewebs.needs import need_place


def is_lot(value):
    """Whether any value is a lot: ascending unlike integers."""
    return are_numbers(value) and all([one < other for one, other in zip(value, value[1:])])


def need_lots(value, places):
    """Raise if the value, passed as lots, is no list of lots of so many places, no place in two of them."""
    if not isinstance(value, (list, tuple)) or not all([is_lot(lot) and len(lot) > 0 for lot in value]):
        raise BadLot("lots")
    told = [place for lot in value for place in lot]
    for place in told:
        need_place(place, places)
    twice = first_twice(told)
    if twice is not None:
        raise Twice(twice)
