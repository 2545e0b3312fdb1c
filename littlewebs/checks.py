"""Checks of values of any kind."""

from littlewebs.papers import fixed


def is_integer(value):
    """Whether the value is an integer; True and False are none."""
    return isinstance(value, int) and not isinstance(value, bool)


def is_within(value, least, most):
    """Whether the value is an integer from least to most, where None is no bound."""
    if not is_integer(value):
        return False
    return (least is None or least <= value) and (most is None or value <= most)


def are_numbers(value):
    """Whether the value is a list or tuple of integers, perhaps empty."""
    return isinstance(value, (list, tuple)) and all([is_integer(item) for item in value])


def first_twice(values):
    """The first of the values that equals one ahead of it, each list as a tuple; None if there is none."""
    ahead = {}
    for value in fixed(values):
        alike = ahead.setdefault(_key(value), [])
        if value in alike:
            return value
        alike.append(value)
    return None


def _key(value):
    """What equal values have in common."""
    # Keys are kept flat, as deep tuples may not be keys: so unlike values may share one and must still be compared.
    if isinstance(value, (int, str)):
        return value
    if isinstance(value, tuple):
        return tuple([item for item in value if isinstance(item, (int, str))])
    return None
