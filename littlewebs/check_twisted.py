"""Whether papers on little webs that lie oddly are right."""

from littlewebs.checks import are_numbers
from littlewebs.joined import colours_between
from littlewebs.lots import is_lot
from littlewebs.masks import lot_of
from littlewebs.strands import lies_oddly_with
from littlewebs.twisted import Evenly, Oddly, lies_oddly, need_little_and_base


def shows_oddly(little, base, value):
    """Whether the value is an Oddly of a map and a lot that lie oddly, or the Evenly if there are none."""
    need_little_and_base(little, base)
    if type(value) == Oddly:
        if not _is_map(little, base, value.places) or not _is_lot_of(little, value.lot):
            return False
        return lies_oddly_with(little, base, dict(enumerate(value.places)), lot_of(value.lot))
    return type(value) == Evenly and not lies_oddly(little, base)


def _is_map(little, base, value):
    """Whether any value is a map of the little web into the base."""
    if not are_numbers(value) or len(value) != little.places:
        return False
    if not all([0 <= image < base.places for image in value]):
        return False
    beside = colours_between(base)
    return all([beside.get((value[one], value[other])) == colour for one, other, colour in little.ties])


def _is_lot_of(little, value):
    """Whether any value is a lot of places of the little web."""
    return is_lot(value) and all([0 <= place < little.places for place in value])
