"""Strands of maps into a base, and lots that lie oddly with them.

Lots are told by integers here. A map leads some parts of the little web, perhaps all: it is a dict of the images of
their places.
"""

from littlewebs.joined import tied_places
from littlewebs.masks import lot_of, many_in


def strands(little, base, images):
    """The strands of all ties of the base."""
    ends = {}
    for one, other, _ in little.ties:
        if one in images:
            pair = (min(images[one], images[other]), max(images[one], images[other]))
            ends.setdefault(pair, []).append(lot_of((one, other)))
    found = []
    for one, other, _ in base.ties:
        led = [lot_of([place]) for place, image in images.items() if image in (one, other)]
        found.extend(_hung_together(led, ends.get((one, other), [])))
    return found


def _hung_together(lots, ties):
    """The lots, but those that a tie hangs together are one."""
    for ends in ties:
        joined = sum([lot for lot in lots if lot & ends])
        lots = [lot for lot in lots if not lot & ends] + [joined]
    return lots


def _covering(little, base, images):
    """The places whose ties are led to all ties at their images: any other one is some strand by itself."""
    led = {place: [] for place in images}
    for one, other, _ in little.ties:
        if one in images:
            led[one].append(images[other])
            led[other].append(images[one])
    near = tied_places(base)
    return [place for place, image in images.items() if len(set(led[place])) == len(near[image])]


def led_to_first(images):
    """The lot of the places that are led to place 0."""
    return lot_of([place for place, image in images.items() if image == 0])


def is_odd(lot, other):
    """Whether an odd number of places is in both lots."""
    return many_in(lot & other) % 2 == 1


def lies_oddly_with(little, base, images, lot):
    """Whether the map and the lot lie oddly."""
    if any([is_odd(lot, strand) for strand in strands(little, base, images)]):
        return False
    return is_odd(lot, led_to_first(images))


def odd_lot(little, base, images):
    """A lot that lies oddly with the map; None if no one does."""
    covering = _covering(little, base, images)
    # Such a lot has a place led to each one of the base.
    if len(set([images[place] for place in covering])) < base.places:
        return None
    lots = [lot_of([place]) for place in covering]
    for strand in strands(little, base, images):
        odd = [lot for lot in lots if is_odd(lot, strand)]
        # What two lots have in one of them alone is even where both are odd: so these make up all even ones.
        lots = [lot for lot in lots if not is_odd(lot, strand)] + [lot ^ odd[0] for lot in odd[1:]]
    found = [lot for lot in lots if is_odd(lot, led_to_first(images))]
    return found[0] if found else None
