"""How the places of a web are put in order so that its text is least."""

# Stands for no tie: behind all colours, as a tie makes a text less than no tie does.
NO_TIE = "e"

KINDS = ("a", "b", "c", "d", "e")


def plain_order(colours):
    """The order by which a web becomes its plain one.

    The web, of ten places at most, is told by a row for each place, with the colour of its tie to each place.
    """
    ways = [([], [list(range(len(colours)))])]
    for _ in colours:
        steps = [step for order, cells in ways for step in _steps(colours, order, cells)]
        least = min([row for row, _, _ in steps])
        ways = [(order, cells) for row, order, cells in steps if row == least]
    return ways[0][0]


def _steps(colours, order, cells):
    """All ways to tell one place more: what its ties to later places are, the order, and the cells then.

    The cells part the places that have no number yet: those of an earlier cell get lower numbers.
    """
    steps = []
    for at, place in enumerate(cells[0]):
        # Of places that can be exchanged one is enough: all others would lead to the same texts.
        if not any([_are_alike(colours, place, ahead) for ahead in cells[0][:at]]):
            parted = _parted(colours[place], [cells[0][:at] + cells[0][at + 1:]] + cells[1:])
            steps.append((_row(colours[place], parted, len(order) + 1), order + [place], parted))
    return steps


def _are_alike(colours, one, other):
    """Whether all other places are tied to both places alike."""
    return all([
        colours[one][place] == colours[other][place] for place in range(len(colours)) if place not in (one, other)
    ])


def _parted(near, cells):
    """Each cell parted by the ties to the place whose row is given, the least colour first."""
    parted = [[place for place in cell if near[place] == kind] for cell in cells for kind in KINDS]
    return [cell for cell in parted if cell]


def _row(near, cells, number):
    """The ties, as they stand in the text, to the places of the cells, numbered from the number on."""
    row = []
    for cell in cells:
        for place in cell:
            if near[place] != NO_TIE:
                row.append((near[place], number))
            number += 1
    # The item behind this row begins with a greater number: a longer row is less.
    return row + [(NO_TIE,)]
