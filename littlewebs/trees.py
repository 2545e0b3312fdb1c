"""What trees tell of webs: kinds of places, and the shares of places of one kind."""

from littlewebs.errors import Misfit
from littlewebs.led import Led
from littlewebs.papers import Denial, Paper
from littlewebs.web_needs import need_web


class Parted(Paper):
    """The settled kinds of all places of the one web and, behind these, of the other one."""

    def __init__(self, kinds):
        Paper.__init__(self, "parted", kinds)
        self.kinds = self.parts[0]


class Look(Denial):
    """Behind this look, some kind has unlike many places in both webs."""

    def __init__(self, number):
        Denial.__init__(self, "look", number)
        self.number = self.parts[0]


def alike_trees(one, other):
    """The Parted, if the webs are alike to trees, otherwise the Look."""
    need_web(one, "one")
    need_web(other, "other")
    # The places of the other web have the numbers behind those of the one.
    ties = list(one.ties) + [(low + one.places, high + one.places, colour) for low, high, colour in other.ties]
    kinds = [0] * (one.places + other.places)
    looks = 0
    while sorted(kinds[:one.places]) == sorted(kinds[one.places:]):
        fresh = _looked(ties, kinds)
        if max(fresh) == max(kinds):
            return Parted(kinds)
        kinds = fresh
        looks += 1
    return Look(looks)


def shares(one, other):
    """The Led of the table in which places of one kind have equal shares."""
    told = alike_trees(one, other)
    if type(told) == Look:
        raise Misfit("kinds")
    ones, others = told.kinds[:one.places], told.kinds[one.places:]
    return Led([[(1, others.count(own)) if own == kind else (0, 1) for kind in others] for own in ones])


def _looked(ties, kinds):
    """The kinds behind one more look, numbered as they are first met."""
    near = [[] for _ in kinds]
    for one, other, colour in ties:
        near[one].append((colour, kinds[other]))
        near[other].append((colour, kinds[one]))
    seen = {}
    return [seen.setdefault((kind, tuple(sorted(lot))), len(seen)) for kind, lot in zip(kinds, near)]
