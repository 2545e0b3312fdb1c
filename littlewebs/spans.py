"""Rows of integers, and what is a sum of multiples of them by fractions."""

from math import gcd


class Span:
    """All sums of multiples of the rows that were taken in."""

    def __init__(self):
        self._rows = []

    def widen(self, row):
        """Take a row in, and tell whether it was no such sum before."""
        for at, ahead in self._rows:
            row = _without(row, at, ahead)
        begins = [at for at, worth in enumerate(row) if worth != 0]
        if not begins:
            return False
        self._rows.append((begins[0], _shortened(row)))
        return True


def _without(row, at, ahead):
    """A multiple of the row, less one of a row ahead, with 0 at this column and wherever both have 0."""
    if row[at] == 0:
        return row
    divisor = gcd(row[at], ahead[at])
    more, fewer = ahead[at] // divisor, row[at] // divisor
    return [more * worth - fewer * other for worth, other in zip(row, ahead)]


def _shortened(row):
    """The row divided by the greatest integer that divides all of it."""
    divisor = 0
    for worth in row:
        divisor = gcd(divisor, worth)
    return [worth // divisor for worth in row]


def solved(rows, rights):
    """For a square of rows what, multiplied with it, gives the right rows: integers, and what divides them all.

    The squares in the upper left corner of the rows, of any size, must not have determinant 0.
    """
    joined = [list(row) + list(right) for row, right in zip(rows, rights)]
    bottom = 1
    for at in range(len(joined)):
        pivot = joined[at]
        # All numbers are determinants of parts of the square: so this division leaves no rest.
        cleared = [
            [(pivot[at] * worth - row[at] * other) // bottom for worth, other in zip(row, pivot)] for row in joined
        ]
        joined = cleared[:at] + [pivot] + cleared[at + 1:]
        bottom = pivot[at]
    return [row[len(rows):] for row in joined], bottom
