"""Which places of a web are tied, by ties of any colour."""


def colours_between(web):
    """For each two tied places, either way about, the colour of their tie."""
    between = {}
    for one, other, colour in web.ties:
        between[one, other] = colour
        between[other, one] = colour
    return between


def tied_places(web):
    """For each place all places that are tied to it."""
    tied = [[] for _ in range(web.places)]
    for one, other, _ in web.ties:
        tied[one].append(other)
        tied[other].append(one)
    return tied


def joined_order(tied, place, order):
    """The order, with the place and all that are joined to it behind: each one tied to one ahead of it."""
    order = order + [place]
    for other in tied[place]:
        if other not in order:
            order = joined_order(tied, other, order)
    return order
