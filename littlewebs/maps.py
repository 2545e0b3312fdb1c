"""Little webs counted in webs: maps, one-to-one maps, selfmaps and pieces."""

from littlewebs.errors import TooMany
from littlewebs.needs import COLOURS
from littlewebs.web_needs import need_little, need_web

MOST_WAYS = 1000000


def maps(little, web):
    """How many maps of the little web into the web there are."""
    _need_few_ways(little, web)
    ways = 1
    for part in little.parts:
        ways *= _ways(_ties_ahead(little, _joined_order(little, part)), _near(web), [], False)
    return ways


def one_to_one(little, web):
    """How many one-to-one maps of the little web into the web there are."""
    _need_few_ways(little, web)
    return _one_to_one_ways(little, web)


def pieces(little, web):
    """How many pieces of the web are like the little web."""
    _need_few_ways(little, web)
    return _one_to_one_ways(little, web) // _one_to_one_ways(little, little)


def selfmaps(little):
    """How many one-to-one maps of the little web into itself there are."""
    need_little(little, "little")
    return _one_to_one_ways(little, little)


def _need_few_ways(little, web):
    """Raise if one of both is no such web, or if there may be too many maps."""
    need_little(little, "little")
    need_web(web, "web")
    ties = max([sum([web.degree(place, colour) for colour in COLOURS]) for place in range(web.places)])
    ways = 1
    for part in little.parts:
        ways *= web.places
        for _ in part[1:]:
            ways *= ties
    if ways > MOST_WAYS:
        raise TooMany("ways", MOST_WAYS)


def _one_to_one_ways(little, web):
    """How many one-to-one maps there are, of all parts together, as parts may not meet."""
    order = [place for part in little.parts for place in _joined_order(little, part)]
    return _ways(_ties_ahead(little, order), _near(web), [], True)


def _joined_order(web, part):
    """The places of the part, each behind the first one tied to one ahead of it."""
    order = [part[0]]
    for at in range(len(part)):
        near = [place for colour in COLOURS for place in web.neighbours(order[at], colour)]
        order = order + [place for place in near if place not in order]
    return order


def _ties_ahead(web, order):
    """For each place of the order its ties to places ahead: where in the order these stand, and the colours."""
    ahead = [[(at, web.tied(place, order[at])) for at in range(number)] for number, place in enumerate(order)]
    return [[(at, colour) for at, colour in ties if colour is not None] for ties in ahead]


def _near(web):
    """For each colour the neighbours of each place, and for no tie, None, all places for each of them."""
    numbers = list(range(web.places))
    near = {colour: [web.neighbours(place, colour) for place in numbers] for colour in COLOURS}
    near[None] = numbers
    return near


def _ways(ties_ahead, near, images, unlike):
    """In how many ways the places behind those whose images are told can be led, to unlike places if so asked."""
    lots = [near[colour][images[at]] for at, colour in ties_ahead[len(images)]] or [near[None]]
    found = lots[0]
    for lot in lots[1:]:
        found = [image for image in found if image in lot]
    if unlike:
        found = [image for image in found if image not in images]
    if len(images) + 1 == len(ties_ahead):
        return len(found)
    return sum([_ways(ties_ahead, near, images + [image], unlike) for image in found])
