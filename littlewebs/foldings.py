"""Foldings of little webs: their places put together, and what is counted through them."""

from math import factorial

from littlewebs.errors import Misfit
from littlewebs.maps import selfmaps
from littlewebs.needs import need_few_places
from littlewebs.papers import Denial, Paper
from littlewebs.web_needs import need_little
from littlewebs.webs import Web

MOST_FOLDED = 6


class Told(Paper):
    """The little web is told by trees."""

    def __init__(self):
        Paper.__init__(self, "told")


class Folded(Denial):
    """Some folding leads to this web, which has a round."""

    def __init__(self, web):
        Denial.__init__(self, "folded", web)
        self.web = self.parts[0]


def foldings(little):
    """The plain webs to which foldings lead, each with how many do so."""
    _need_foldable(little)
    return tuple([(web, len(numbers)) for web, numbers in _folded(little)])


def by_maps(little):
    """The same webs, each with the number that its maps are taken by to make up the one-to-one maps."""
    _need_foldable(little)
    return tuple([(web, sum(numbers)) for web, numbers in _folded(little)])


def by_pieces(little):
    """The same webs, each with the number that its pieces are taken by to make up the maps."""
    _need_foldable(little)
    return tuple([(web, len(numbers) * selfmaps(web)) for web, numbers in _folded(little)])


def told_by_trees(little):
    """The Told, if the little web is told by trees, otherwise the Folded of the first web that has a round."""
    need_little(little, "little")
    if not little.is_joined():
        raise Misfit("joined")
    need_few_places(little.places, MOST_FOLDED)
    # What a joined web leads to is joined: without a round it is a tree.
    rounded = [web for web, _ in _folded(little) if not web.is_tree()]
    return Folded(rounded[0]) if rounded else Told()


def _need_foldable(little):
    """Raise if this is no little web, or one of too many places."""
    need_little(little, "little")
    need_few_places(little.places, MOST_FOLDED)


def _folded(little):
    """The plain webs to which foldings lead, in their order, each with the numbers of these foldings."""
    led = {}
    for parting in _partings(little.places):
        ties = _ties_led(little.ties, parting)
        if ties is not None:
            led.setdefault((max(parting) + 1, ties), []).append(_number(parting))
    found = {}
    for (places, ties), numbers in led.items():
        web = Web(places, ties).plain()
        _, told = found.setdefault((-places, str(web)), (web, []))
        told.extend(numbers)
    return [found[key] for key in sorted(found)]


def _partings(places):
    """All ways to part so many places into lots: for each place the number of its lot, as they are first met."""
    found = [()]
    for _ in range(places):
        found = [parting + (lot,) for parting in found for lot in range(max(parting, default=-1) + 2)]
    return found


def _ties_led(ties, parting):
    """The ties between the lots, ascending; None if the parting is no folding."""
    colours = {}
    for one, other, colour in ties:
        lots = (min(parting[one], parting[other]), max(parting[one], parting[other]))
        if lots[0] == lots[1] or colours.get(lots, colour) != colour:
            return None
        colours[lots] = colour
    return tuple(sorted([(one, other, colour) for (one, other), colour in colours.items()]))


def _number(parting):
    """For each lot one less than its places, two less and so on, multiplied, with a minus if they are even."""
    number = 1
    for lot in range(max(parting) + 1):
        many = parting.count(lot)
        number *= factorial(many - 1) if many % 2 == 1 else -factorial(many - 1)
    return number
