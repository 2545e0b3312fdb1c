"""The even and the twisted web over a base, and little webs that tell them from one another."""

from littlewebs.errors import Misfit
from littlewebs.joined import colours_between, joined_order, tied_places
from littlewebs.needs import need_few_places
from littlewebs.papers import Denial, Paper
from littlewebs.strands import odd_lot
from littlewebs.web_needs import need_little
from littlewebs.webs import MOST_PLACES, Web

MOST_ODD = 6


class Oddly(Paper):
    """The map that leads to these places of the base, and this lot, lie oddly."""

    def __init__(self, places, lot):
        Paper.__init__(self, "oddly", places, lot)
        self.places = self.parts[0]
        self.lot = self.parts[1]


class Evenly(Denial):
    """No map and no lot lie oddly."""

    def __init__(self):
        Denial.__init__(self, "evenly")


def even_web(base):
    """The even web over the base."""
    _need_base_told(base)
    return _web_over(base, _sets(base, False))


def twisted_web(base):
    """The twisted web over the base."""
    _need_base_told(base)
    return _web_over(base, _sets(base, True))


def over(base):
    """The place of the base that each place of the even web, and of the twisted one, is over."""
    _need_base_told(base)
    return tuple([place for place, _ in _sets(base, False)])


def lies_oddly(little, base):
    """An Oddly, if the little web lies oddly over the base, otherwise the Evenly."""
    need_little_and_base(little, base)
    for part in little.parts:
        for images in _maps_onto(little, part, base):
            lot = odd_lot(little, base, images)
            if lot is not None:
                return _oddly(little, base, images, lot)
    return Evenly()


def need_little_and_base(little, base):
    """Raise if the one is no little web, the other one no base, or if one of both has too many places."""
    need_little(little, "little")
    _need_base(base)
    need_few_places(max(little.places, base.places), MOST_ODD)


def _need_base(base):
    """Raise if this is no base."""
    need_little(base, "base")
    if not base.is_joined():
        raise Misfit("joined")
    if not base.ties:
        raise Misfit("ties")


def _need_base_told(base):
    """Raise if this is no base, or if the webs over it have too many places."""
    _need_base(base)
    need_few_places(sum([1 << (len(near) - 1) for near in tied_places(base)]), MOST_PLACES)


def _sets(base, is_twisted):
    """For each place of the web over the base the one that it is over, and where the ties in its set lead."""
    found = []
    for place, near in enumerate(tied_places(base)):
        # The tie to the least neighbour counts most.
        falling = sorted(near, reverse=True)
        for number in range(1 << len(near)):
            chosen = [other for at, other in enumerate(falling) if number >> at & 1]
            if len(chosen) % 2 == int(is_twisted and place == 0):
                found.append((place, chosen))
    return found


def _web_over(base, sets):
    """The web over the base whose places are told by these sets."""
    between = colours_between(base)
    ties = [
        (number, behind, between[one, other])
        for behind, (other, near) in enumerate(sets) for number, (one, chosen) in enumerate(sets[:behind])
        if (one, other) in between and (other in chosen) == (one in near)
    ]
    return Web(len(sets), ties)


def _maps_onto(little, part, base):
    """All maps of a part of the little web that reach all places of the base; none if it has too few ties."""
    # A lot that lies oddly has a place led to each one of the base, with ties led to all ties there.
    ties = sorted([len(tied_places(little)[place]) for place in part], reverse=True)
    wanted = sorted([len(near) for near in tied_places(base)], reverse=True)
    if len(ties) < len(wanted) or any([many < needed for many, needed in zip(ties, wanted)]):
        return []
    return _maps_of(little, part, base, base.places)


def _maps_of(little, part, base, least):
    """All maps of a part of the little web that reach so many places of the base, or more."""
    order = joined_order(tied_places(little), part[0], [])
    between, beside = colours_between(little), colours_between(base)
    found = [{}]
    for at, place in enumerate(order):
        ahead = [(other, between[other, place]) for other in order[:at] if (other, place) in between]
        found = [
            {**images, place: image} for images in found for image in range(base.places)
            if all([beside.get((images[other], image)) == colour for other, colour in ahead])
        ]
        # Each place that is still to come reaches one more at most.
        found = [images for images in found if len(set(list(images.values()))) + len(order) - at > least]
    return found


def _oddly(little, base, images, lot):
    """The Oddly of a map of all parts that is this one on its part; the Evenly if some part has no map."""
    told = dict(images)
    for part in little.parts:
        if part[0] not in images:
            found = _maps_of(little, part, base, 0)
            if not found:
                return Evenly()
            told.update(found[0])
    places = range(little.places)
    return Oddly([told[place] for place in places], [place for place in places if lot >> place & 1])
