"""Turns: tables of fractions that lead webs to others with equal traces; and switched webs, which are led by some."""

from itertools import combinations

from littlewebs.errors import BadTable, Misfit
from littlewebs.fractions import lowest
from littlewebs.led import basis
from littlewebs.lots import need_lots
from littlewebs.masks import lot_of, many_in
from littlewebs.needs import need_colour, need_few_places
from littlewebs.papers import fixed
from littlewebs.tables import is_table, is_turn_of_fractions
from littlewebs.web_needs import need_web
from littlewebs.webs import Web

MOST_SWITCHED = 10


def is_turn(table):
    """Whether the table of fractions is a turn."""
    _need_table(table)
    return is_turn_of_fractions(table)


def order_of(table):
    """The order that a renaming table tells; None for any other table."""
    _need_table(table)
    rows = fixed(table)
    places = range(len(rows))
    if any([len(row) != len(rows) for row in rows]):
        return None
    units = [tuple([(int(place == at), 1) for place in places]) for at in places]
    order = tuple([rows.index(unit) for unit in units if unit in rows])
    return order if len(order) == len(rows) else None


def spans(web, letters):
    """Whether the walks of the web span it for the letters."""
    return len(basis(web, letters)) == web.places


def switched(web, colour, lots):
    """The web, switched at the lots."""
    need_web(web, "web")
    need_colour(colour, "colour")
    need_lots(lots, web.places)
    _need_one_colour(web, colour)
    near = _near(web, colour)
    if not _may_be_switched(near, lots):
        raise Misfit("lots")
    pairs = [(min(place, other), max(place, other)) for place, lot in _halves(near, lots) for other in lot]
    kept = [tie for tie in web.ties if tie[:2] not in pairs]
    return Web(web.places, kept + [(one, other, colour) for one, other in pairs if web.tied(one, other) is None])


def switching_table(web, lots):
    """The switching table of the lots."""
    need_web(web, "web")
    need_lots(lots, web.places)
    places = range(web.places)
    table = [[(int(place == at), 1) for place in places] for at in places]
    for lot in lots:
        for one in lot:
            for other in lot:
                table[one][other] = lowest(2 - len(lot) if one == other else 2, len(lot))
    return fixed(table)


def switching_lots(web, colour):
    """All lots at each of which, alone, the web may be switched and becomes an unequal one."""
    need_web(web, "web")
    need_colour(colour, "colour")
    _need_one_colour(web, colour)
    need_few_places(web.places, MOST_SWITCHED)
    near = _near(web, colour)
    places = list(range(web.places))
    lots = [lot for many in range(2, web.places) for lot in combinations(places, many)]
    return tuple([lot for lot in lots if _halves(near, [lot]) and _may_be_switched(near, [lot])])


def _need_table(value):
    """Raise if the value, passed as table, is no table of fractions."""
    if not is_table(value):
        raise BadTable("table")


def _need_one_colour(web, colour):
    """Raise if a tie of the web has another colour."""
    if any([own != colour for _, _, own in web.ties]):
        raise Misfit("colours")


def _near(web, colour):
    """For each place the lot of its neighbours, told by an integer."""
    return [lot_of(web.neighbours(place, colour)) for place in range(web.places)]


def _may_be_switched(near, lots):
    """Whether a web with these neighbours may be switched at the lots."""
    outside = _in_no_lot(near, lots)
    for lot in lots:
        told = lot_of(lot)
        if any([2 * many_in(near[place] & told) not in (0, len(lot), 2 * len(lot)) for place in outside]):
            return False
        if any([len(set([many_in(near[place] & told) for place in other])) > 1 for other in lots]):
            return False
    return True


def _halves(near, lots):
    """All pairs of a place in none of the lots and a lot to half of which it is tied."""
    outside = _in_no_lot(near, lots)
    told = [(lot, lot_of(lot)) for lot in lots]
    return [(place, lot) for lot, own in told for place in outside if 2 * many_in(near[place] & own) == len(lot)]


def _in_no_lot(near, lots):
    """The places in none of the lots."""
    told = [place for lot in lots for place in lot]
    return [place for place in range(len(near)) if place not in told]
