"""Newton's rule: polynomials told by closed walks, and closed walks by polynomials."""

from math import comb


def traces_by(polynomial, many):
    """How many closed walks of the first so many lengths the polynomial tells."""
    falling = list(reversed(polynomial))
    traces = [len(polynomial) - 1]
    for length in range(1, many):
        told = length * falling[length] if length < len(falling) else 0
        traces.append(-told - _joined(traces[1:], falling[1:]))
    return tuple(traces[:many])


def polynomial_by(traces):
    """The polynomial with as many closed walks of these lengths, from 0 on; None if it has not integers alone."""
    falling = [1]
    for length in range(1, len(traces)):
        told = _joined(traces[1:length + 1], falling)
        if told % length != 0:
            return None
        falling.append(-told // length)
    return tuple(reversed(falling))


def _joined(traces, falling):
    """The last trace times the first number of the polynomial, the one ahead times the second, and so on, added up."""
    return sum([trace * number for trace, number in zip(reversed(traces), falling)])


def opposite_by(polynomial, sums):
    """The polynomial of the opposite of a web with this polynomial and so many walks of each length."""
    places = len(polynomial) - 1
    by_y = [
        number + sum([ahead * walks for ahead, walks in zip(polynomial[power + 1:], sums)])
        for power, number in enumerate(polynomial)
    ]
    # As y is -1 - x, each power of it is one of 1 + x, with a minus if it is odd.
    signed = [number if (places - power) % 2 == 0 else -number for power, number in enumerate(by_y)]
    return tuple([
        sum([number * comb(power, at) for power, number in enumerate(signed)]) for at in range(places + 1)
    ])
