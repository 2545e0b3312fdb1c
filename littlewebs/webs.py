"""Webs: places with ties in colours between them."""

from littlewebs.checks import first_twice, is_integer, is_within
from littlewebs.errors import BadNumber, BadText, BadWeb, Misfit, NoPlace, Twice
from littlewebs.needs import COLOURS, is_colour, need_colour, need_few_places, need_place
from littlewebs.plains import NO_TIE, plain_order

MOST_PLACES = 24


class Web:
    """A web of one to 24 places."""

    def __init__(self, places, ties):
        if not is_within(places, 1, MOST_PLACES):
            raise BadNumber("places")
        _need_ties(places, ties)
        self.places = places
        self.ties = tuple(sorted([(min(one, other), max(one, other), colour) for one, other, colour in ties]))
        self.parts = _parts(places, self.ties)
        self._near = _neighbours(places, self.ties)

    def __eq__(self, other):
        return type(self) is type(other) and self.places == other.places and self.ties == other.ties

    def __str__(self):
        return " ".join([str(self.places), ":"] + [f"{one}{colour}{other}" for one, other, colour in self.ties])

    @staticmethod
    def read(text):
        """The web with this text."""
        if not isinstance(text, str):
            raise BadText(0, 0)
        items = text.split(" ")
        numbers = {str(number): number for number in range(MOST_PLACES + 1)}
        places = numbers.get(items[0], 0)
        if places == 0:
            raise BadText(0, 0)
        if items[1:2] != [":"]:
            raise BadText(0, 1)
        ties = []
        for at, item in enumerate(items[2:], start=2):
            tie = _tie_told(item, numbers)
            if tie is None or tie[1] >= places or (ties and tie[:2] <= ties[-1][:2]):
                raise BadText(0, at)
            ties.append(tie)
        return Web(places, ties)

    def tied(self, one, other):
        """The colour of the tie between two places, None without one."""
        need_place(one, self.places)
        need_place(other, self.places)
        for colour in COLOURS:
            if other in self._near[colour][one]:
                return colour
        return None

    def neighbours(self, place, colour):
        """The lot of places that are tied to this one in the colour."""
        need_place(place, self.places)
        need_colour(colour, "colour")
        return self._near[colour][place]

    def degree(self, place, colour):
        """How many places are tied to this one in the colour."""
        return len(self.neighbours(place, colour))

    def renamed(self, order):
        """The web whose place k is place order[k] of this one."""
        if not isinstance(order, (list, tuple)):
            raise NoPlace(order)
        for place in order:
            need_place(place, self.places)
        twice = first_twice(order)
        if twice is not None:
            raise Twice(twice)
        if len(order) < self.places:
            raise Misfit("places")
        numbers = {place: number for number, place in enumerate(order)}
        return Web(self.places, [(numbers[one], numbers[other], colour) for one, other, colour in self.ties])

    def beside(self, other):
        """The web of this one and, behind its places, the other one."""
        if not isinstance(other, Web):
            raise BadWeb("other")
        need_few_places(self.places + other.places, MOST_PLACES)
        behind = [(one + self.places, two + self.places, colour) for one, two, colour in other.ties]
        return Web(self.places + other.places, list(self.ties) + behind)

    def opposite(self, colour):
        """The web with a tie of this colour wherever this one has none."""
        need_colour(colour, "colour")
        if any([own != colour for _, _, own in self.ties]):
            raise Misfit("colours")
        pairs = [(one, other) for other in range(self.places) for one in range(other)]
        return Web(self.places, [(one, other, colour) for one, other in pairs if self.tied(one, other) is None])

    def is_joined(self):
        """Whether ties lead from each place to each other one."""
        return len(self.parts) == 1

    def is_tree(self):
        """Whether the web is joined and has no round."""
        return self.is_joined() and len(self.ties) == self.places - 1

    def plain(self):
        """The web with the least text of all that are like this one."""
        need_few_places(self.places, 7)
        numbers = list(range(self.places))
        return self.renamed(plain_order([[self.tied(one, other) or NO_TIE for other in numbers] for one in numbers]))


def _need_ties(places, ties):
    """Raise for ties that a web of so many places cannot have; each fault is looked for in all of them."""
    if not isinstance(ties, (list, tuple)) or not all([_is_triple(tie) for tie in ties]):
        raise BadWeb("ties")
    for one, other, _ in ties:
        need_place(one, places)
        need_place(other, places)
    for one, other, _ in ties:
        if one == other:
            raise Twice(one)
    twice = first_twice([(min(one, other), max(one, other)) for one, other, _ in ties])
    if twice is not None:
        raise Twice(twice)


def _is_triple(value):
    """Whether any value is a triple of two integers and a colour."""
    if not isinstance(value, (list, tuple)) or len(value) != 3:
        return False
    return is_integer(value[0]) and is_integer(value[1]) and is_colour(value[2])


def _parts(places, ties):
    """The parts, by their least places."""
    leasts = list(range(places))
    for one, other, _ in ties:
        low, high = min(leasts[one], leasts[other]), max(leasts[one], leasts[other])
        leasts = [low if least == high else least for least in leasts]
    return tuple([
        tuple([place for place in range(places) if leasts[place] == least]) for least in sorted(set(leasts))
    ])


def _neighbours(places, ties):
    """For each colour and each place the lot of its neighbours."""
    near = {colour: [[] for _ in range(places)] for colour in COLOURS}
    for one, other, colour in ties:
        near[colour][one].append(other)
        near[colour][other].append(one)
    return {colour: [tuple(sorted(lot)) for lot in near[colour]] for colour in COLOURS}


def _tie_told(item, numbers):
    """The tie that an item of a text tells, by the numbers that are let; None if it tells none."""
    for colour in COLOURS:
        one, _, other = item.partition(colour)
        if one in numbers and other in numbers and numbers[one] < numbers[other]:
            return numbers[one], numbers[other], colour
    return None
