"""How many walks of each length there are in a web, by ties of one colour."""

from littlewebs.columns import met, put_ahead, unit_columns


def closed_walks(web, colour, many):
    """How many closed walks of the first so many lengths there are."""
    near = [web.neighbours(place, colour) for place in range(web.places)]
    tables = [unit_columns(web.places)]
    for _ in range(many // 2):
        tables.append([_added([tables[-1][other] for other in lot], web.places) for lot in near])
    # A closed walk is one to some place and, backwards, another one to it: each may have half of the length.
    halves = [(tables[length // 2], tables[length - length // 2]) for length in range(many)]
    return [sum([met(column, other) for column, other in zip(one, two)]) for one, two in halves]


def all_walks(web, colour, many):
    """How many walks of the first so many lengths there are."""
    sums = []
    column = [1] * web.places
    for _ in range(many):
        sums.append(sum(column))
        column = put_ahead(web, colour, column)
    return sums


def _added(columns, places):
    """Columns added up place by place, perhaps none."""
    return [sum(worths) for worths in zip(*columns)] if columns else [0] * places
