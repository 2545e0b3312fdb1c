"""Little webs counted in webs: maps, one-to-one maps, selfmaps and pieces."""

from littlewebs.errors import TooMany
from littlewebs.joined import colours_between, joined_order, tied_places
from littlewebs.ways import (
    alike_behind, free_ways, least_first, near_lots, rows_behind, unlike_ways, whole_lot,
)
from littlewebs.web_needs import need_little, need_web

MOST_WAYS = 1000000
FEW_PLACES = 11


def maps(little, web):
    """How many maps of the little web into the web there are."""
    _need_few_ways(little, web)
    between, tied, near = colours_between(little), tied_places(little), near_lots(web, False)
    ways = 1
    for part in little.parts:
        # Begun at an end, few lots are open at a time; so more choices leave the same lots.
        order = joined_order(tied, min(part, key=lambda place: len(tied[place])), [])
        ways *= free_ways((whole_lot(web),) * len(order), rows_behind(between, order, near, False), {})
    return ways


def one_to_one(little, web):
    """How many one-to-one maps of the little web into the web there are."""
    _need_few_ways(little, web)
    return _one_to_one_ways(little, web)


def pieces(little, web):
    """How many pieces of the web are like the little web."""
    _need_few_ways(little, web)
    return _one_to_one_ways(little, web) // _one_to_one_ways(little, little)


def selfmaps(little):
    """How many one-to-one maps of the little web into itself there are."""
    need_little(little, "little")
    return _one_to_one_ways(little, little)


def _need_few_ways(little, web):
    """Raise if one of both is no such web, or if there may be too many maps."""
    need_little(little, "little")
    need_web(web, "web")
    ties = max([len(places) for places in tied_places(web)])
    ways = 1
    for part in little.parts:
        ways *= web.places
        for _ in part[1:]:
            ways *= ties
    if ways > MOST_WAYS:
        raise TooMany("ways", MOST_WAYS)


def _one_to_one_ways(little, web):
    """How many one-to-one maps there are, of all parts together, as parts may not meet."""
    order, between = _ends_last(little), colours_between(little)
    rows = rows_behind(between, order, near_lots(web, True), True)
    lots = (whole_lot(web),) * len(order)
    # In a web of few places what is left is soon the same as before, and known: there is nothing to spare then.
    if web.places <= FEW_PLACES or not rows[-1]:
        return unlike_ways(lots, rows, {})
    # Of the first place and those to which selfmaps lead it, each one has the least image equally often.
    alike = alike_behind(between, order, little)
    return (len(alike) + 1) * unlike_ways(lots, rows[:-1] + [least_first(rows[-1], alike)], {})


def _ends_last(little):
    """The places in the order of their parts, greater parts first, and of each part those with one tie last.

    What is not tied to one another at the end of the order is counted without trying its images.
    """
    tied = tied_places(little)
    found = []
    for part in sorted(little.parts, key=len, reverse=True):
        order = joined_order(tied, max(part, key=lambda place: len(tied[place])), [])
        found.extend([place for place in order if len(tied[place]) > 1])
        found.extend([place for place in order if len(tied[place]) <= 1])
    return found
