"""Tables of fractions, and whether they lead one web to another."""

from math import lcm

from littlewebs.columns import met, put_ahead
from littlewebs.fractions import is_fraction


def is_table(value):
    """Whether any value is a table of fractions: rows that are all as long as one another."""
    if not isinstance(value, (list, tuple)) or not all([isinstance(row, (list, tuple)) for row in value]):
        return False
    return all([len(row) == len(value[0]) and all([is_fraction(item) for item in row]) for row in value])


def flipped(table):
    """The table with its rows for columns."""
    return [list(column) for column in zip(*table)]


def leads(one, other, letters, table):
    """Whether the table of fractions leads the one web to the other one for the letters."""
    if len(table) != one.places or len(table[0]) != other.places:
        return False
    rows, unit = _whole(table)
    if any([sum(line) != unit for line in rows + flipped(rows)]):
        return False
    return all([
        flipped([put_ahead(one, letter, column) for column in flipped(rows)])
        == [put_ahead(other, letter, row) for row in rows]
        for letter in letters
    ])


def is_turn_of_fractions(table):
    """Whether the table of fractions is a turn."""
    if any([len(row) != len(table) for row in table]):
        return False
    ahead = []
    for row in table:
        rows, unit = _whole([row])
        if met(rows[0], rows[0]) != unit * unit or any([met(rows[0], other) != 0 for other in ahead]):
            return False
        ahead.append(rows[0])
    return True


def _whole(table):
    """The table times the least integer that makes integers of all its fractions, and this integer."""
    unit = 1
    for row in table:
        for _, bottom in row:
            unit = lcm(unit, bottom)
    return [[top * (unit // bottom) for top, bottom in row] for row in table], unit
