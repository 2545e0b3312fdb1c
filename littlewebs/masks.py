"""Lots of places that are told by integers: bit k is 1 if place k is in the lot."""


def lot_of(places):
    """The lot of these places."""
    return sum([1 << place for place in places])


def many_in(lot):
    """How many places are in the lot."""
    return f"{lot:b}".count("1")


def each_in(lot):
    """For each place in the lot the lot of this place alone."""
    found = []
    while lot:
        found.append(lot & -lot)
        lot &= lot - 1
    return found
