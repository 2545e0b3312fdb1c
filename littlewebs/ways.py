"""In how many ways places of a little web can be led to places of a web.

Lots are told by integers here. An image is the lot of one place of the web alone. Lots in a row are those that are
open to the places of the little web that are not led yet.
"""

from math import perm

from littlewebs.masks import each_in, many_in
from littlewebs.needs import COLOURS


def whole_lot(web):
    """The lot of all places of the web."""
    return (1 << web.places) - 1


def near_lots(web, unlike):
    """For each colour and each image the lot of its neighbours; for None the lot that is open to what is not tied."""
    images = each_in(whole_lot(web))
    near = {colour: {image: 0 for image in images} for colour in COLOURS}
    for one, other, colour in web.ties:
        near[colour][1 << one] |= 1 << other
        near[colour][1 << other] |= 1 << one
    near[None] = {image: whole_lot(web) - image if unlike else whole_lot(web) for image in images}
    return near


def rows_behind(between, order, near, unlike):
    """For each place of the order, the last one first, what each of its images leaves to the places behind it.

    The row is empty where nothing needs to be left out: for places that are not tied to any place behind them, and,
    if the images are to be unlike, also not followed by tied ones. A row stands where as many lots are open.
    """
    rows = [()]
    for at in range(len(order) - 1, -1, -1):
        colours = [between.get((order[at], place)) for place in order[at + 1:]]
        is_tied = any([colour is not None for colour in colours])
        rows.append([near[colour] for colour in colours] if is_tied or (unlike and rows[-1]) else ())
    return rows


def free_ways(lots, rows, known):
    """In how many ways images can be chosen of the lots, so that ties lie on ties; known ones are kept."""
    if len(lots) == 1:
        return many_in(lots[0])
    if lots not in known:
        row = rows[len(lots)]
        if not row:
            known[lots] = many_in(lots[0]) * free_ways(lots[1:], rows, known)
        elif len(lots) == 2:
            known[lots] = _tied_pairs(lots, row[0])
        else:
            known[lots] = sum([free_ways(left, rows, known) for left in _lots_left(lots, row)])
    return known[lots]


def unlike_ways(lots, rows, known):
    """In how many ways unlike images can be chosen of the lots, so that ties lie on ties; known ones are kept."""
    row = rows[len(lots)]
    if not row:
        return _unlike_choices(lots)
    if lots not in known:
        if len(lots) == 2:
            known[lots] = _tied_pairs(lots, row[0])
        elif rows[len(lots) - 1]:
            known[lots] = sum([unlike_ways(left, rows, known) for left in _lots_left(lots, row)])
        else:
            known[lots] = sum([_unlike_choices(left) for left in _lots_left(lots, row)])
    return known[lots]


def alike_behind(between, order, little):
    """Where in the order those places stand, behind the first one, to which selfmaps of the little web lead it."""
    rows = rows_behind(between, order, near_lots(little, True), True)
    behind = (whole_lot(little),) * (len(order) - 1)
    return [at for at in range(1, len(order)) if unlike_ways((1 << order[at],) + behind, rows, {}) > 0]


def least_first(row, alike):
    """The row of the first place, but to places that are alike its images leave only what is above them."""
    return [
        {image: lot & -(image << 1) for image, lot in near.items()} if at in alike else near
        for at, near in enumerate(row, start=1)
    ]


def _tied_pairs(lots, near):
    """How many pairs of tied images, one of each of the two lots, there are."""
    return sum([many_in(lots[1] & near[image]) for image in each_in(lots[0])])


def _lots_left(lots, row):
    """For each image in the first lot what it leaves of the others, unless nothing is left of one."""
    behind = lots[1:]
    found = [tuple([lot & near[image] for lot, near in zip(behind, row)]) for image in each_in(lots[0])]
    return [left for left in found if 0 not in left]


def _unlike_choices(lots):
    """In how many ways unlike images can be chosen of the lots."""
    first, behind = lots[0], lots[1:]
    if lots.count(first) == len(lots):
        return perm(many_in(first), len(lots))
    if len(behind) == 1:
        return many_in(first) * many_in(behind[0]) - many_in(first & behind[0])
    # Choose the first one freely; but it must not be the one chosen of a lot behind, which is in both lots then.
    ways = many_in(first) * _unlike_choices(behind)
    for at, lot in enumerate(behind):
        if lot & first:
            ways -= _unlike_choices(behind[:at] + (lot & first,) + behind[at + 1:])
    return ways
